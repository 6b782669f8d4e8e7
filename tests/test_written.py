import unittest

from helper import TestCase
from talkalike.errors import BadLine
from talkalike.written import format_request, format_talk, format_value, parse_request, parse_talk, parse_value

VALUES = [("", "="), ("a", "=a"), ("abcxyz", "=abcxyz"), ("new", "=new"), (0, "#0"), (7, "#7"), (10, "#10"),
          (-1, "#-1"), (-120, "#-120"), (10 ** 29, "#1" + "0" * 29), (10 ** 30 - 1, "#" + "9" * 30),
          (-10 ** 29, "#-1" + "0" * 29), (1 - 10 ** 30, "#-" + "9" * 30), ("z" * 500, "=" + "z" * 500)]

NO_VALUES = ["", "a", "0", "-1", "=A", "=a1", "=a b", "= a", "= ", "=a ", " =a", "=a\n", "\n=a", "==", "=#0", "=*", "=?",
             "#", "#-", "#-0", "#00", "#01", "#-01", "#+1", "#--1", "#1-", "# 1", "#1 ", " #1", "#1\n", "#a", "#1a",
             "#1_000", "#0x1", "#1.0", "#=a", "##1", "#\u0661", "#\u00b2", "#1\u0661", "=\u00e9", "#True", "True", "None",
             "?a", "*", "-", " ", "\n", "new", "#1" + "0" * 30, "#-1" + "0" * 30, "#" + "9" * 31, "#0" + "9" * 29,
             "#" + "9" * 5000]

REQUESTS = [(("new",), "new"), (("new", "ab", -1), "new =ab #-1"), (("new", "", "", ""), "new = = ="),
            (("new", "new"), "new =new"), ((0, "get"), "#0 get"), ((-3, "put", "", 4), "#-3 put = #4"),
            ((12, "put", 0, "a", -1), "#12 put #0 =a #-1"), ((0, "abcdefghijkl"), "#0 abcdefghijkl"),
            ((0, "newer", "new"), "#0 newer =new")]

NO_REQUESTS = ["", " ", "new ", " new", "new  =a", "new =a ", "new a", "new = = = =", "new get", "new #0 get", "News", "New",
               "newer", "new\n", "\nnew", "new\t=a", "new =a\t", "new\r", "new #", "new #-0", "new #00", "get", "#0",
               "#0 ", "#0  get", "#0 get ", " #0 get", "#0 get  =a", "#0 new", "#0 new =a", "#0 Get", "#0 get2",
               "#0 abcdefghijklm", "#0 =a", "#0 #1", "=a get", "= get", "a get", "0 get", "-1 get", "#-0 get", "#00 get",
               "# get", "#1" + "0" * 30 + " get", "#0 put = = = =", "#0 put a", "#0 put =A", "#0 put =a\n", "#0 get\n",
               "#0 get #" + "9" * 31, "#0 get get", "#0\tget", "#0 get -", "#0 get #0 new", "#-1 ", "#0 \n"]


class Values(TestCase):

    def test_written_forms(self):
        for value, text in VALUES:
            self.assertEqual(format_value(value), text)
            found = parse_value(text)
            self.assertEqual(found, value)
            self.assertIs(type(found), type(value))

    def test_other_strings(self):
        for text in NO_VALUES:
            self.assert_fails(BadLine, None, parse_value, text)


class Requests(TestCase):

    def test_written_forms(self):
        for request, line in REQUESTS:
            self.assertEqual(format_request(request), line)
            self.assertEqual(parse_request(line), request)
            self.assertIs(type(parse_request(line)), tuple)

    def test_values_inside(self):
        for value, text in VALUES:
            self.assertEqual(parse_request("new " + text), ("new", value))
            self.assertEqual(format_request(("new", value)), "new " + text)
            self.assertEqual(parse_request("#0 put =a " + text + " #1"), (0, "put", "a", value, 1))
            if text[0] == "#":
                self.assertEqual(parse_request(text + " get"), (value, "get"))
                self.assertEqual(format_request((value, "get")), text + " get")

    def test_other_strings(self):
        for line in NO_REQUESTS:
            self.assert_fails(BadLine, None, parse_request, line)
        for text in NO_VALUES:
            self.assert_fails(BadLine, None, parse_request, "new " + text)
            self.assert_fails(BadLine, None, parse_request, "#0 put = " + text)
            self.assert_fails(BadLine, None, parse_request, text + " get")


class Talks(TestCase):

    def test_examples(self):
        self.assertEqual(format_talk([("new", "ab", -1), (0, "get")]), "new =ab #-1\n#0 get")
        self.assertEqual(parse_talk("new =ab #-1\n#0 get"), [("new", "ab", -1), (0, "get")])
        self.assert_fails(BadLine, 1, parse_talk, "new =ab\n")

    def test_empty_talk(self):
        self.assertEqual(format_talk([]), "")
        self.assertEqual(parse_talk(""), [])
        self.assertEqual(parse_talk("new"), [("new",)])

    def test_written_forms(self):
        talk = [request for request, _ in REQUESTS]
        text = "\n".join(line for _, line in REQUESTS)
        self.assertEqual(format_talk(talk), text)
        self.assertEqual(talk, [request for request, _ in REQUESTS])
        self.assertEqual(parse_talk(text), talk)
        self.assertIs(type(parse_talk(text)), list)

    def test_lists_are_new(self):
        for text in ("", "new\n#0 get"):
            found = parse_talk(text)
            expected = list(found)
            found.append("changed")
            self.assertEqual(parse_talk(text), expected)

    def test_first_invalid_line(self):
        for line in NO_REQUESTS:
            if "\n" not in line:
                self.assert_fails(BadLine, 1, parse_talk, "new\n" + line)
                self.assert_fails(BadLine, 2, parse_talk, "new\n#0 get\n" + line + "\nnew\nwrong")
                if line:
                    self.assert_fails(BadLine, 0, parse_talk, line)
                    self.assert_fails(BadLine, 0, parse_talk, line + "\nwrong")

    def test_empty_lines(self):
        for text, place in (("\n", 0), ("\nnew", 0), ("new\n", 1), ("new\n\nnew", 1), ("new\nnew\n", 2), ("\n\n", 0),
                            ("new\r\nnew", 0), ("new\x0bnew", 0), ("new\u2028new", 0)):
            self.assert_fails(BadLine, place, parse_talk, text)


if __name__ == "__main__":
    unittest.main()
