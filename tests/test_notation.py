import unittest

from helper import ALWAYS, CLEAR, KEEP, Dice, TestCase, locks, receipts
from talkalike.errors import (BadCondition, BadCount, BadKinds, BadLine, BadName, BadPattern, BadSource, DuplicateName,
                              UnknownName, UnknownRequest, UnknownStation)
from talkalike.notation import format_service, parse_service
from talkalike.services import Service, same_service

HEAD = ["stations open closed", "registers owner note", "request new name", "request put key text", "request get"]
FORMS = Service(["open", "closed"], ["owner", "note"], [("new", "name"), ("put", "key", "text"), ("get",)], [
    (None, "new", ALWAYS, ("ok",), (("value", "name"), CLEAR), "open"),
    ("open", "put", ("and", ("or", ("matches", "key", "a?*"), ("same", "key", "owner")), ("not", ("empty", "note"))),
     ("told", ("value", "self"), ("text", ""), ("text", "ab"), ("fresh", 2)), (("text", ""), ("fresh", 0)), "closed"),
    (None, "get", ("or",), ("never",), (KEEP, ("text", "abcdefgh")), "open"),
    ("closed", "get", ("and",), ("answer", ("fresh", 1)), (CLEAR, KEEP), "open"),
    ("closed", "put", ("matches", "text", ""), ("ok", ("value", "key")), (KEEP, KEEP), "open"),
    ("closed", "put", ("never",), ("ok",), (KEEP, KEEP), "open"),
])
WRITTEN = "\n".join(HEAD + [
    "rule - new always answer ok 0 turn value name clear next open",
    "rule open put and 2 or 2 matches key =a?* same key owner not empty note"
    " answer told 4 value self text = text =ab fresh 2 turn text = fresh 0 next closed",
    "rule - get or 0 answer never 0 turn keep text =abcdefgh next open",
    "rule closed get and 0 answer answer 1 fresh 1 turn clear keep next open",
    "rule closed put matches text = answer ok 1 value key turn keep keep next open",
    "rule closed put never answer ok 0 turn keep keep next open",
])
RULE = "rule open put {} answer ok {} turn {} next open"


def rule_line(condition="always", answer="0", turn="keep keep"):
    return RULE.format(condition, answer, turn)


class Written(TestCase):

    def test_format(self):
        self.assertEqual(format_service(FORMS), WRITTEN)
        self.assertEqual(format_service(receipts()), "\n".join([
            "stations open closed", "registers token", "request new", "request close", "request claim key",
            "rule - new always answer ok 0 turn clear next open",
            "rule open close always answer receipt 1 fresh 0 turn fresh 0 next closed",
            "rule closed claim same key token answer claimed 0 turn clear next closed"]))

    def test_no_registers_and_no_rules(self):
        service = Service(["open"], [], [("new",)], [])
        self.assertEqual(format_service(service), "stations open\nregisters\nrequest new")
        self.assertTrue(same_service(parse_service("stations open\nregisters\nrequest new"), service))

    def test_examples(self):
        self.assert_same(parse_service("stations open\nregisters\nrequest new").stations, ["open"])
        rule = "rule - new always answer ok 0 turn next open"
        self.assert_same(parse_service("stations open\nregisters\nrequest new\n" + rule).rules,
                         [(None, "new", ("always",), ("ok",), (), "open")])
        self.assert_fails(BadLine, 2, parse_service, "stations open\nregisters\nrule")

    def test_read(self):
        service = parse_service(WRITTEN)
        self.assert_same(service.stations, FORMS.stations)
        self.assert_same(service.registers, FORMS.registers)
        self.assert_same(service.requests, FORMS.requests)
        self.assert_same(service.rules, FORMS.rules)

    def test_written_and_read_back(self):
        services = [receipts(), receipts(ALWAYS), locks(), FORMS] + [Dice(seed).service() for seed in range(200)]
        for service in services:
            text = format_service(service)
            self.assertTrue(same_service(parse_service(text), service))
            self.assertEqual(format_service(parse_service(text)), text)

    def test_words_of_the_writing_as_names(self):
        service = Service(["rule", "next", "turn"], ["answer", "keep", "value"],
                          [("new", "always", "not", "and"), ("request", "text", "fresh", "clear")], [
                              ("next", "request", ("same", "answer", "text"), ("turn", ("value", "fresh"), ("text", "turn")),
                               (("value", "keep"), KEEP, ("value", "clear")), "rule")])
        text = format_service(service)
        self.assertEqual(text.split("\n")[4], "rule next request same answer text answer turn 2 value fresh text =turn"
                                              " turn value keep keep value clear next rule")
        self.assertTrue(same_service(parse_service(text), service))


class Case(TestCase):

    def bad(self, index, *lines):
        self.assert_fails(BadLine, index, parse_service, "\n".join(lines))

    def bad_rule(self, line):
        """The line lacks its form, wherever it stands, and whatever is wrong with lines and names elsewhere."""
        self.bad(5, *HEAD, line)
        self.bad(6, *HEAD, rule_line(), line, "x")
        self.bad(5, "stations Open", *HEAD[1:], line)
        self.bad(2, "stations", "registers A B", line)

    def read(self, line):
        """The only rule of a service with this line."""
        return parse_service("\n".join(HEAD + [line])).rules[0]

    def fails(self, kind, place, *lines):
        self.assert_fails(kind, place, parse_service, "\n".join(lines))


class FirstLines(Case):

    def test_missing(self):
        self.bad(0, "")
        self.bad(1, "stations open")
        self.bad(1, "stations")
        self.bad(1, "stations open", "")

    def test_first_words(self):
        for line in ("", " ", "station open", "stations=", "Stations open", " stations open", "registers owner", "stationsopen"):
            self.bad(0, line, *HEAD[1:])
            self.bad(0, line)
        for line in ("", " ", "register owner", "Registers owner", " registers owner", "stations open", "request new"):
            self.bad(1, HEAD[0], line, *HEAD[2:])
            self.bad(1, HEAD[0], line)

    def test_their_form_comes_ahead_of_the_rest(self):
        self.bad(0, "x", "x", "x")
        self.bad(1, HEAD[0], "x", "x")
        self.bad(2, HEAD[0], HEAD[1], "x", "x")

    def test_no_names(self):
        self.fails(BadCount, "stations", "stations", *HEAD[1:])
        self.assertEqual(parse_service("\n".join([HEAD[0], "registers"] + HEAD[2:])).registers, [])


class LaterLines(Case):

    def test_first_words(self):
        for line in ("", " ", "requests new", "rules", "-", "Rule - new always answer ok 0 turn keep keep next open",
                     " request new", " " + rule_line(), "stations open", "registers"):
            self.bad(2, *HEAD[:2], line, *HEAD[2:])
            self.bad(5, *HEAD, line)
            self.bad(6, *HEAD, rule_line(), line)

    def test_newline_at_the_end(self):
        self.bad(5, *HEAD, "")
        self.bad(2, *HEAD[:2], "")
        self.fails(BadLine, 11, WRITTEN + "\n")
        self.fails(BadLine, 0, "\n" + WRITTEN)

    def test_kinds(self):
        self.bad(3, *HEAD[:3], "request", *HEAD[4:])
        self.fails(BadKinds, None, *HEAD[:2])
        self.fails(BadKinds, None, *HEAD[:2], rule_line())

    def test_kind_behind_a_rule(self):
        self.bad(6, *HEAD, rule_line(), "request take")
        self.bad(6, *HEAD, rule_line(), "request")
        self.bad(5, *HEAD[:4], rule_line(), HEAD[4])
        self.bad(3, *HEAD[:2], rule_line(), HEAD[2])

    def test_first_of_several(self):
        self.bad(5, *HEAD, "rule", "request", "x")
        self.bad(2, *HEAD[:2], "request", "rule")
        self.bad(1, HEAD[0], "x", "request", "rule")


class Spaces(Case):

    def test_empty_words_where_names_stand(self):
        self.fails(BadName, "", "stations  open", *HEAD[1:])
        self.fails(BadName, "", "stations open ", *HEAD[1:])
        self.fails(BadName, "", "stations ", *HEAD[1:])
        self.fails(BadName, "", HEAD[0], "registers ", *HEAD[2:])
        self.fails(BadName, "", HEAD[0], "registers owner  note", *HEAD[2:])
        self.fails(BadKinds, None, *HEAD, "request ")
        self.fails(BadKinds, None, *HEAD, "request take ")
        self.fails(BadKinds, None, *HEAD, "request  take")
        self.fails(UnknownStation, "", *HEAD, "rule  put always answer ok 0 turn keep keep next open")
        self.fails(UnknownRequest, "", *HEAD, "rule open  always answer ok 0 turn keep keep next open")
        self.fails(UnknownName, "", *HEAD, rule_line("same  key"))
        self.fails(UnknownName, "", *HEAD, rule_line("empty "))
        self.fails(UnknownName, "", *HEAD, rule_line("matches  =a"))
        self.fails(BadName, "", *HEAD, "rule open put always answer  0 turn keep keep next open")
        self.fails(UnknownName, "", *HEAD, rule_line("always", "1 value "))
        self.fails(UnknownStation, "", *HEAD, "rule open put always answer ok 0 turn keep keep next ")

    def test_empty_words_elsewhere(self):
        for line in ("rule open put  answer ok 0 turn keep keep next open", "rule open put  always answer ok 0 turn keep keep next open",
                     "rule open put always  answer ok 0 turn keep keep next open", "rule open put always answer ok  0 turn keep keep next open",
                     "rule open put always answer ok 0  turn keep keep next open", "rule open put always answer ok 0 turn  keep keep next open",
                     "rule open put always answer ok 0 turn keep  keep next open", "rule open put always answer ok 0 turn keep keep  next open",
                     rule_line() + " ", rule_line("matches key "), rule_line("and  always"), rule_line("not  always"),
                     rule_line("always", "1 text "), rule_line("always", "1 fresh "), rule_line("always", "1  text =a"),
                     rule_line("always", "0 "), rule_line("and "), " " + rule_line()):
            self.bad_rule(line)

    def test_an_empty_word_counts_as_a_register(self):
        self.bad(5, HEAD[0], "registers owner note ", *HEAD[2:], rule_line())
        self.fails(BadName, "", HEAD[0], "registers owner ", *HEAD[2:], rule_line())
        self.bad(5, HEAD[0], "registers", *HEAD[2:], rule_line("always", "0", ""))


class Rules(Case):

    def test_every_beginning(self):
        for line in WRITTEN.split("\n")[5:]:
            words = line.split(" ")
            for count in range(1, len(words)):
                self.bad_rule(" ".join(words[:count]))

    def test_a_word_too_many(self):
        for line in WRITTEN.split("\n")[5:]:
            self.bad_rule(line + " open")
            self.bad_rule(line + " ")

    def test_a_word_left_out_or_doubled(self):
        line = "rule open put and 1 matches key =a answer ok 1 text =b turn keep clear next closed"
        words = line.split(" ")
        for at in range(1, len(words)):
            self.bad(5, *HEAD, " ".join(words[:at] + words[at + 1:]))
            self.bad(5, *HEAD, " ".join(words[:at] + [words[at]] + words[at:]))

    def test_fixed_words(self):
        for word in ("answer", "turn", "next"):
            for other in (word.upper(), word + "s", "", "keep"):
                self.bad_rule(rule_line("always", "1 value self").replace(" " + word + " ", " " + other + " "))

    def test_station(self):
        self.assertEqual(self.read(rule_line())[0], "open")
        self.assertIsNone(self.read("rule - put always answer ok 0 turn keep keep next open")[0])
        self.fails(UnknownStation, "-", *HEAD, "rule open put always answer ok 0 turn keep keep next -")
        self.fails(UnknownStation, "--", *HEAD, "rule -- put always answer ok 0 turn keep keep next open")

    def test_numbers_of_lines(self):
        for turn in ("keep", "", "keep keep keep", "value key", "value", "text", "fresh", "keep text", "keep fresh"):
            self.bad_rule(rule_line("always", "0", turn))
        for turn, lines in (("keep clear", (KEEP, CLEAR)), ("value key value self", (("value", "key"), ("value", "self"))),
                            ("text =keep fresh 2", (("text", "keep"), ("fresh", 2)))):
            self.assert_same(self.read(rule_line("always", "0", turn))[4], lines)
        for count in range(4):
            registers = "registers" + "".join(" " + name for name in "abc"[:count])
            for lines in range(5):
                text = "\n".join(["stations open", registers, "request new",
                                  " ".join(["rule - new always answer ok 0 turn"] + ["keep"] * lines + ["next open"])])
                if lines == count:
                    self.assertEqual(parse_service(text).rules[0][4], (KEEP,) * count)
                else:
                    self.assert_fails(BadLine, 3, parse_service, text)

    def test_lines(self):
        for line in ("kept", "Keep", "", "own", "empty", "fresh 3", "fresh -1", "fresh 00", "fresh 01", "fresh +1", "text a", "text"):
            self.bad_rule(rule_line("always", "0", "keep " + line))
            self.bad_rule(rule_line("always", "0", line + " keep"))


class Sources(Case):

    def test_counts(self):
        for count in range(5):
            sources = " ".join([str(count)] + ["text =a"] * count)
            self.assert_same(self.read(rule_line("always", sources))[3], ("ok",) + (("text", "a"),) * count)
        self.bad_rule(rule_line("always", "5" + " text =a" * 5))
        for word in ("00", "01", "-0", "+1", "a", "", "1 ", "0x1", "1_", "10"):
            self.bad_rule(rule_line("always", word))
            self.bad_rule(rule_line("always", word + " text =a"))
        self.bad_rule(rule_line("always", "1"))
        self.bad_rule(rule_line("always", "1 text =a text =a"))
        self.bad_rule(rule_line("always", "2 text =a"))

    def test_sources(self):
        for words, source in (("value key", ("value", "key")), ("text =", ("text", "")), ("text =ab", ("text", "ab")),
                              ("fresh 0", ("fresh", 0)), ("fresh 1", ("fresh", 1)), ("fresh 2", ("fresh", 2))):
            self.assert_same(self.read(rule_line("always", "1 " + words))[3], ("ok", source))

    def test_form(self):
        for words in ("value", "text", "fresh", "keep", "clear", "values key", "Text =a", "text a", "text a=", "fresh 3",
                      "fresh 10", "fresh -1", "fresh 00", "fresh 01", "fresh +0", "fresh a", "fresh =0", "own 0", "always"):
            self.bad_rule(rule_line("always", "1 " + words))

    def test_not_checked_by_reading(self):
        self.fails(BadSource, ("text", "A"), *HEAD, rule_line("always", "1 text =A"))
        self.fails(BadSource, ("text", "=a"), *HEAD, rule_line("always", "1 text ==a"))
        self.fails(BadSource, ("text", "abcdefghi"), *HEAD, rule_line("always", "1 text =abcdefghi"))
        self.fails(UnknownName, "lock", *HEAD, rule_line("always", "1 value lock"))
        self.fails(UnknownName, "=key", *HEAD, rule_line("always", "0", "value =key keep"))


def nots(depth):
    return " ".join(["not"] * (depth - 1) + ["always"])


class Conditions(Case):

    def test_forms(self):
        for words, condition in (
            ("always", ALWAYS), ("never", ("never",)), ("and 0", ("and",)), ("or 0", ("or",)), ("not and 0", ("not", ("and",))),
            ("and 1 never", ("and", ("never",))), ("or 2 always and 0", ("or", ALWAYS, ("and",))),
            ("matches key =", ("matches", "key", "")), ("matches self =a?*", ("matches", "self", "a?*")),
            ("same key text", ("same", "key", "text")), ("empty note", ("empty", "note")),
            ("or 2 and 1 empty note not same key self", ("or", ("and", ("empty", "note")), ("not", ("same", "key", "self")))),
        ):
            self.assert_same(self.read(rule_line(words))[2], condition)

    def test_number_of_parts(self):
        for count in range(20):
            self.assert_same(self.read(rule_line("and " + str(count) + " always" * count))[2], ("and",) + (ALWAYS,) * count)
        # Twenty parts have their form, though the condition is too large; twenty-one do not.
        self.fails(BadCondition, ("or",) + (ALWAYS,) * 20, *HEAD, rule_line("or 20" + " always" * 20))
        self.bad_rule(rule_line("or 21" + " always" * 21))
        self.bad_rule(rule_line("and 100" + " always" * 100))
        for number in ("00", "01", "+1", "-1", "-0", "a", "", "always", "1_", "=1"):
            self.bad_rule(rule_line("and " + number + " always"))
            self.bad_rule(rule_line("or " + number))
        self.bad_rule(rule_line("and 2 always"))
        self.bad_rule(rule_line("and 1 always always"))
        self.bad_rule(rule_line("and always"))
        self.bad_rule(rule_line("not 1 always"))

    def test_size_is_not_checked_by_reading(self):
        condition = ("and", ("or",) + (ALWAYS,) * 10, ("or",) + (ALWAYS,) * 10)
        words = "and 2 or 10" + " always" * 10 + " or 10" + " always" * 10
        self.fails(BadCondition, condition, *HEAD, rule_line(words))

    def test_depth(self):
        condition = ALWAYS
        for depth in range(1, 7):
            self.assert_same(self.read(rule_line(nots(depth)))[2], condition)
            condition = ("not", condition)
        self.bad_rule(rule_line(nots(7)))
        self.bad_rule(rule_line(nots(300)))
        self.bad_rule(rule_line("and 2 " + nots(5) + " " + nots(6)))
        self.bad_rule(rule_line("or 1 " * 6 + "or 0"))
        self.bad_rule(rule_line("and 1 " * 6 + "empty note"))
        self.assertEqual(self.read(rule_line("or 1 " * 5 + "or 0"))[2], ("or", ("or", ("or", ("or", ("or", ("or",)))))))
        self.assertEqual(self.read(rule_line("and 2 " + nots(5) + " " + nots(5)))[2][0], "and")

    def test_form(self):
        for words in ("", "maybe", "Always", "matches key", "matches key a", "matches key a=", "matches =a", "same key",
                      "same", "empty", "not", "and", "or", "and 1", "not not", "always always", "=always", "-"):
            self.bad_rule(rule_line(words))

    def test_not_checked_by_reading(self):
        self.fails(BadPattern, "A", *HEAD, rule_line("matches key =A"))
        self.fails(BadPattern, "=", *HEAD, rule_line("matches key =="))
        self.fails(BadPattern, "***", *HEAD, rule_line("matches key =***"))
        self.fails(UnknownName, "lock", *HEAD, rule_line("matches lock =a"))
        self.fails(UnknownName, "key", *HEAD, rule_line("empty key"))


class ErrorsOfTheService(Case):

    def test_first_error(self):
        self.fails(DuplicateName, "open", "stations open open", *HEAD[1:], rule_line("empty lock"))
        self.fails(BadCount, "registers", HEAD[0], "registers a b c d", *HEAD[2:])
        self.fails(BadCount, "stations", "stations a b c d e f g", *HEAD[1:])
        self.fails(BadName, "self", HEAD[0], "registers self", *HEAD[2:])
        self.fails(BadKinds, None, *HEAD, "request put")
        self.fails(BadCount, "rules", *HEAD, *[rule_line("empty lock")] * 41)
        self.fails(UnknownName, "lock", *HEAD, rule_line(), rule_line("empty lock"), rule_line("empty door"))

    def test_a_line_without_its_form_comes_first(self):
        self.bad(6, "stations Open", *HEAD[1:], rule_line("empty lock"), "rule")
        self.bad(46, *HEAD, *[rule_line()] * 41, "")


if __name__ == "__main__":
    unittest.main()
