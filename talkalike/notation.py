"""Services as text."""

from talkalike.errors import BadLine
from talkalike.rules import MOST_FRESH, MOST_SOURCES
from talkalike.services import Service

MOST_PARTS = 20
MOST_DEPTH = 6


def format_service(service):
    """Return the text that writes a service."""
    lines = [["stations", *service.stations], ["registers", *service.registers]]
    lines.extend([["request", *kind] for kind in service.requests])
    lines.extend([words_of_rule(rule) for rule in service.rules])
    return "\n".join([" ".join(words) for words in lines])


def words_of_rule(rule):
    """Return the list of the words of the line for a rule."""
    station, name, condition, answer, turn, behind = rule
    words = ["rule", "-" if station is None else station, name, *words_of_condition(condition)]
    words.extend(["answer", answer[0], str(len(answer) - 1)])
    for source in answer[1:]:
        words.extend(words_of_line(source))
    words.append("turn")
    for line in turn:
        words.extend(words_of_line(line))
    return words + ["next", behind]


def words_of_condition(condition):
    """Return the list of the words of a condition."""
    word = condition[0]
    if word == "matches":
        return [word, condition[1], "=" + condition[2]]
    if word not in ("and", "or", "not"):
        return list(condition)
    words = [word] if word == "not" else [word, str(len(condition) - 1)]
    for part in condition[1:]:
        words.extend(words_of_condition(part))
    return words


def words_of_line(line):
    """Return the list of the words of a source or of a line of a turn."""
    if line[0] == "text":
        return ["text", "=" + line[1]]
    return [str(part) for part in line]


def parse_service(text):
    """Return the service that a text writes, or raise an error."""
    lines = text.split("\n")
    stations = names_behind("stations", lines, 0)
    registers = names_behind("registers", lines, 1)
    requests = []
    rules = []
    for index, line in enumerate(lines[2:], start=2):
        reader = Reader(line, index)
        word = reader.take_word()
        if word == "request" and not rules:
            requests.append((reader.take_word(), *reader.take_rest()))
        elif word == "rule":
            rules.append(rule_read(reader, len(registers)))
        else:
            raise BadLine(index)
    return Service(stations, registers, requests, rules)


def names_behind(word, lines, index):
    """Return the list of the names in one of the first two lines, which begins with the word."""
    if index >= len(lines):
        raise BadLine(index)
    reader = Reader(lines[index], index)
    reader.take_this(word)
    return reader.take_rest()


class Reader:
    """Reads the words of one line from left to right; index is the index of the line."""

    def __init__(self, line, index):
        self._words = line.split(" ")
        self._index = index
        self._at = 0

    def take_word(self):
        """Return the next word."""
        if self._at == len(self._words):
            raise BadLine(self._index)
        self._at += 1
        return self._words[self._at - 1]

    def take_rest(self):
        """Return the list of the words that were not read yet."""
        start = self._at
        self._at = len(self._words)
        return self._words[start:]

    def take_this(self, word):
        """Read the next word, which must be this one."""
        if self.take_word() != word:
            raise BadLine(self._index)

    def take_number(self, most):
        """Return the number from 0 to most that the next word writes."""
        word = self.take_word()
        if word not in [str(number) for number in range(most + 1)]:
            raise BadLine(self._index)
        return int(word)

    def take_marked(self):
        """Return the text or pattern behind the sign in front of it."""
        word = self.take_word()
        if not word.startswith("="):
            raise BadLine(self._index)
        return word[1:]

    def take_condition(self, depth):
        """Return the condition that comes next; depth is the greatest depth that it may have."""
        if depth == 0:
            raise BadLine(self._index)
        word = self.take_word()
        if word in ("and", "or"):
            count = self.take_number(MOST_PARTS)
            return (word, *[self.take_condition(depth - 1) for _ in range(count)])
        if word == "not":
            return (word, self.take_condition(depth - 1))
        if word == "matches":
            name = self.take_word()
            return (word, name, self.take_marked())
        if word == "same":
            name = self.take_word()
            return (word, name, self.take_word())
        if word == "empty":
            return (word, self.take_word())
        if word not in ("always", "never"):
            raise BadLine(self._index)
        return (word,)

    def take_line(self):
        """Return the line of a turn that comes next."""
        word = self.take_word()
        return (word,) if word in ("keep", "clear") else self._source_behind(word)

    def take_source(self):
        """Return the source that comes next."""
        return self._source_behind(self.take_word())

    def _source_behind(self, word):
        """Return the source that begins with the word, which was read already."""
        if word == "value":
            return (word, self.take_word())
        if word == "text":
            return (word, self.take_marked())
        if word == "fresh":
            return (word, self.take_number(MOST_FRESH))
        raise BadLine(self._index)

    def take_end(self):
        """Raise BadLine if a word is left over."""
        if self._at < len(self._words):
            raise BadLine(self._index)


def rule_read(reader, count):
    """Return the rule that the words behind "rule" write; count is the number of registers."""
    station = reader.take_word()
    name = reader.take_word()
    condition = reader.take_condition(MOST_DEPTH)
    reader.take_this("answer")
    word = reader.take_word()
    answer = (word, *[reader.take_source() for _ in range(reader.take_number(MOST_SOURCES))])
    reader.take_this("turn")
    turn = tuple([reader.take_line() for _ in range(count)])
    reader.take_this("next")
    behind = reader.take_word()
    reader.take_end()
    return (None if station == "-" else station, name, condition, answer, turn, behind)
