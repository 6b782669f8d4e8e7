"""The written forms of values, requests and talks."""

from talkalike.errors import BadLine
from talkalike.talks import is_name, is_opening, name_of, values_of
from talkalike.texts import is_text

DIGITS = "0123456789"
MOST_DIGITS = 30
MOST_VALUES = 3


def format_value(value):
    """Return the written form of a value."""
    if isinstance(value, str):
        return "=" + value
    return "#" + str(value)


def format_request(request):
    """Return the written form of a request."""
    words = [] if is_opening(request) else [format_value(request[0])]
    words.append(name_of(request))
    words.extend([format_value(value) for value in values_of(request)])
    return " ".join(words)


def format_talk(talk):
    """Return the written form of a talk."""
    return "\n".join([format_request(request) for request in talk])


def parse_value(text):
    """Return the value that a string writes, or raise BadLine."""
    value = value_in(text)
    if value is None:
        raise BadLine()
    return value


def parse_request(line):
    """Return the request that a line writes, or raise BadLine."""
    request = request_in(line)
    if request is None:
        raise BadLine()
    return request


def parse_talk(text):
    """Return the talk that a string writes, or raise BadLine with the index of the first invalid line."""
    talk = []
    # The empty string writes the empty talk, not one empty line.
    lines = text.split("\n") if text else []
    for index, line in enumerate(lines):
        request = request_in(line)
        if request is None:
            raise BadLine(index)
        talk.append(request)
    return talk


def value_in(word):
    """Return the value that the word writes, or None."""
    if word.startswith("="):
        return word[1:] if is_text(word[1:]) else None
    if word.startswith("#"):
        return int(word[1:]) if is_written_number(word[1:]) else None
    return None


def is_written_number(signs):
    """Return True if the signs write an integer as an id is written behind its first sign."""
    digits = signs.removeprefix("-")
    if not 1 <= len(digits) <= MOST_DIGITS or not all([digit in DIGITS for digit in digits]):
        return False
    return digits[0] != "0" or signs == "0"


def request_in(line):
    """Return the request that the line writes, or None."""
    words = line.split(" ")
    if words[0] == "new":
        return with_values(("new",), words[1:])
    if len(words) < 2 or not words[0].startswith("#"):
        return None
    number = value_in(words[0])
    if number is None or not is_name(words[1]) or words[1] == "new":
        return None
    return with_values((number, words[1]), words[2:])


def with_values(head, words):
    """Return the request that begins with head and has the values that the words write, or None."""
    values = [value_in(word) for word in words]
    if len(values) > MOST_VALUES or None in values:
        return None
    return (*head, *values)
