"""Webs written and read: promise 6."""

import itertools
import unittest

from pointways.errors import NoText
from pointways.webs import Web
from pointways.webtexts import read_web, web_text
from things import no_lists, refuses, told

NINE = list("abcdefghi")
LONG = ["aaaa", "bbbb", "cccc", "dddd", "eeee", "ffff", "gggg", "hhhh", "iiii"]
TEXTS = ["a", "zzzz", "a b", "b a", "a b c; a-b c-b", "a b; a-b", "a b; b-a", "a b; a-b a-b", "a b; a-b b-a a-b",
         "ab a b; ab-a a-b b-ab", " ".join(NINE), "a b; " + " ".join(["a-b"] * 20),
         " ".join(LONG) + "; " + " ".join(f"{one}-{two}" for one, two in list(itertools.combinations(LONG, 2))[:20])]


class Written(unittest.TestCase):

    def test_with_ties(self):
        web = Web(["a", "b", "c"], [("a", "b"), ("c", "b")])
        self.assertEqual(web_text(web), "a b c; a-b c-b")
        self.assertEqual(told(web), (["a", "b", "c"], [("a", "b"), ("c", "b")], 2))

    def test_without_ties(self):
        self.assertEqual(web_text(Web(["a", "bb"], [])), "a bb")
        self.assertEqual(web_text(Web(["zzzz"], [])), "zzzz")

    def test_one_tie(self):
        self.assertEqual(web_text(Web(["b", "a"], [("a", "b")])), "b a; a-b")

    def test_ties_alike(self):
        self.assertEqual(web_text(Web(["a", "b"], [("a", "b"), ("b", "a"), ("a", "b")])), "a b; a-b b-a a-b")


class Read(unittest.TestCase):

    def test_the_points_and_ties(self):
        web = read_web("a b c; a-b c-b")
        self.assertIsInstance(web, Web)
        self.assertEqual(told(web), (["a", "b", "c"], [("a", "b"), ("c", "b")], 2))
        self.assertEqual(told(read_web("ab")), (["ab"], [], 0))

    def test_written_again_the_same(self):
        for text in TEXTS:
            with self.subTest(text=text):
                web = read_web(text)
                self.assertEqual(web_text(web), text)
                self.assertEqual(told(read_web(web_text(web))), told(web))

    def test_read_back_the_same(self):
        ties = list(itertools.combinations(LONG, 2))
        for many in range(21):
            web = Web(LONG, ties[:many])
            self.assertEqual(told(read_web(web_text(web))), told(web))


class Refused(unittest.TestCase):

    def refuse(self, texts):
        for text in texts:
            refuses(self, NoText, read_web, text)

    def test_what_is_no_text(self):
        things = [thing for thing in no_lists() if not isinstance(thing, str)]
        self.refuse(things + [[], (), ["a"], ("a", "b"), ["a b; a-b"], b"a b; a-b", [["a", "b"], [["a", "b"]]]])

    def test_the_empty_text(self):
        self.refuse(["", " ", "\n", "\t"])

    def test_blanks_too_many_or_too_few(self):
        self.refuse(["a  b", "a b;  a-b", "a b ; a-b", "a b;a-b", "a b; a-b  b-a", "a b; a -b", "a b; a- b",
                     "a b; a - b", "a b; a-bb-a", "ab; a-b", "a b c; a-bc-b"])

    def test_blanks_ahead_and_behind(self):
        self.refuse([" a", "a ", " a b; a-b", "a b; a-b ", "a b ", " a b", "  a", "a  "])

    def test_tabs_and_line_feeds(self):
        self.refuse(["a\tb", "a\nb", "a b;\ta-b", "a b;\na-b", "a b; a-b\tb-a", "a b; a-b\nb-a", "a\n", "a\t", "\na",
                     "\ta", "a b; a-b\n", "a b; a-b\t", "a b\n; a-b", "a b; a\n-b", "a b; a-b\n\n"])

    def test_a_mark_without_ties(self):
        self.refuse(["a;", "a; ", "a b;", "a b; ", "a b;  ", "; a-b", ";", "; ", " ; ", "a b ;", "a-b"])

    def test_marks_too_many_or_elsewhere(self):
        self.refuse(["a b; ; a-b", "a b;; a-b", "a b; a-b;", "a b; a-b; ", "a b; a-b; b-a", "a; b; a-b", "a; b", ";a b",
                     "a b; a-b ;", "a b; ;"])

    def test_ties_that_are_none(self):
        self.refuse(["a b; ab", "a b; a", "a b; a b", "a b; a-b-a", "a b; a--b", "a b; -a-b", "a b; a-b-", "a b; -",
                     "a b; a-", "a b; -b", "a b; --", "a b; a=b", "a b; a>b", "a b; a_b", "a b; a-b b"])

    def test_ends_that_are_no_points(self):
        self.refuse(["a b; a-c", "a b; c-a", "a b; x-y", "a b; a-b b-c", "a bb; a-b", "a; a-b"])

    def test_both_ends_the_same(self):
        self.refuse(["a b; a-a", "a; a-a", "a b; a-b b-b"])

    def test_a_point_twice(self):
        self.refuse(["a a", "a b a", "a b b; a-b"])

    def test_too_many(self):
        self.refuse(["a b c d e f g h i j", "a b; " + " ".join(["a-b"] * 21)])

    def test_names_that_are_none(self):
        self.refuse(["A", "a B", "a B; a-B", "a1", "1", "a 1; a-1", "abcde", "a abcde; a-abcde", "a,b", "a b, a-b",
                     "a.", "a_", "(a)", "'a'", "\"a\"", "a b: a-b", "a/b", "a\\nb", "~", "a b; A-b", "a b; a-B",
                     "a b; a-1", "['a']", "a|b", "a+b", "{a}"])


if __name__ == "__main__":
    unittest.main()
