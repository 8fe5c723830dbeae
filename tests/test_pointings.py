"""Pointings, turned, written and read: promise 12, and 2 and 3 where they bear on it."""

import itertools
import unittest

from pointways.errors import NoNumbers, NoPointing, NoText
from pointways.pointings import is_pointing, pointing_text, read_pointing, turned
from pointways.webs import Web
from things import (FULL, LARGE, NINE_RING, ONE, RING, ROW, TWO_TIES, all_pointings, no_lists, no_numbers,
                    no_pointings, put, refuses, sample_webs, some_pointings, told, web_of)

THREE = web_of("a b c; ab bc ca")
LONG = Web(["a", "aa", "ab", "b"], [("a", "aa"), ("aa", "ab"), ("ab", "b"), ("b", "a"), ("a", "ab")])


class IsPointing(unittest.TestCase):

    def test_all_pointings(self):
        for web in [ONE, TWO_TIES, THREE, RING, FULL]:
            for pointing in all_pointings(web):
                self.assertIs(is_pointing(web, pointing), True)
                self.assertIs(is_pointing(web, tuple(pointing)), True)

    def test_without_ties(self):
        for web in [ONE, web_of("a b")]:
            for thing in [[], ()]:
                self.assertIs(is_pointing(web, thing), True)
            for thing in [[0], [1], (0,), [None], [[]], [()]]:
                self.assertIs(is_pointing(web, thing), False)

    def test_twenty_ties(self):
        self.assertIs(is_pointing(LARGE, [0, 1] * 10), True)
        self.assertIs(is_pointing(LARGE, [0, 1] * 9 + [0]), False)
        self.assertIs(is_pointing(LARGE, [0, 1] * 10 + [0]), False)

    def test_too_long_or_too_short(self):
        for thing in [[], [0], [0, 1], [0, 1, 0, 1], (1, 1), (1, 1, 1, 1), [0] * 40]:
            self.assertIs(is_pointing(THREE, thing), False)

    def test_a_number_beyond_or_below(self):
        for number in [2, -1, 3, -2, 10, 10 ** 17, -10 ** 17]:
            for at in range(3):
                self.assertIs(is_pointing(THREE, put([0, 1, 0], at, number)), False)

    def test_true_and_false(self):
        for thing in [[True, False, True], [0, 1, True], [False, 0, 0], (1, True, 1), [1, 1, False]]:
            self.assertIs(is_pointing(THREE, thing), False)

    def test_anything_else(self):
        for thing in no_pointings(THREE):
            self.assertIs(is_pointing(THREE, thing), False, repr(thing))

    def test_what_is_handed_in_stays(self):
        for thing in [[0, 1, 0], [0, 1, 2], [[0], {}, "a"]]:
            before = list(thing)
            is_pointing(THREE, thing)
            self.assertEqual(thing, before)


class Turned(unittest.TestCase):

    def test_all_pointings_and_all_ties(self):
        for pointing in all_pointings(THREE):
            for many in range(4):
                for numbers in itertools.permutations(range(3), many):
                    wanted = [1 - lead if at in numbers else lead for at, lead in enumerate(pointing)]
                    for handed in [numbers, list(numbers)]:
                        for row in [pointing, tuple(pointing)]:
                            other = turned(THREE, row, handed)
                            self.assertIs(type(other), list)
                            self.assertEqual(other, wanted)
                            self.assertEqual([type(lead) for lead in other], [int] * 3)
                            self.assertEqual(turned(THREE, other, handed), pointing)

    def test_none_some_all(self):
        self.assertEqual(turned(RING, [0, 1, 1, 0], []), [0, 1, 1, 0])
        self.assertEqual(turned(RING, [0, 1, 1, 0], [3, 1]), [0, 0, 1, 1])
        self.assertEqual(turned(RING, [0, 1, 1, 0], [2, 0, 1, 3]), [1, 0, 0, 1])
        self.assertEqual(turned(ONE, [], []), [])
        self.assertEqual(turned(LARGE, [0] * 20, list(range(20))), [1] * 20)

    def test_a_new_list(self):
        pointing, numbers = [0, 1, 0], []
        other = turned(THREE, pointing, numbers)
        self.assertIsNot(other, pointing)
        other[0] = 7
        self.assertEqual(pointing, [0, 1, 0])
        self.assertEqual(turned(THREE, pointing, numbers), [0, 1, 0])

    def test_what_is_handed_in_stays_and_may_be_changed(self):
        pointing, numbers = [0, 1, 0], [2, 0]
        other = turned(THREE, pointing, numbers)
        self.assertEqual((pointing, numbers), ([0, 1, 0], [2, 0]))
        pointing.clear()
        numbers.append(1)
        self.assertEqual(other, [1, 1, 1])
        self.assertEqual(told(THREE), told(web_of("a b c; ab bc ca")))

    def test_no_pointing(self):
        for thing in no_pointings(THREE):
            refuses(self, NoPointing, turned, THREE, thing, [0])

    def test_no_pointing_goes_ahead(self):
        for thing in [[0, 1], [0, 1, 2], None, "010", [True, 0, 0], {}]:
            for numbers in [[0, 0], [3], [-1], None, "0", [None], {}, 0, [True]]:
                refuses(self, NoPointing, turned, THREE, thing, numbers)

    def test_a_number_twice(self):
        for numbers in [[0, 0], [1, 2, 1], (2, 2), [0, 1, 2, 0], [1] * 4]:
            refuses(self, NoNumbers, turned, THREE, [0, 1, 0], numbers)

    def test_a_number_beyond_or_below(self):
        for number in [3, 4, -1, -2, -3, 10 ** 17, -10 ** 17]:
            refuses(self, NoNumbers, turned, THREE, [0, 1, 0], [number])
            refuses(self, NoNumbers, turned, THREE, (0, 1, 0), (0, number))
        for number in [0, 1, -1]:
            refuses(self, NoNumbers, turned, ONE, [], [number])

    def test_a_thing_that_is_no_number(self):
        for thing in no_numbers():
            refuses(self, NoNumbers, turned, THREE, [0, 1, 0], [thing])
            refuses(self, NoNumbers, turned, THREE, [0, 1, 0], [2, thing])
            refuses(self, NoNumbers, turned, THREE, [0, 1, 0], (thing, 2))

    def test_what_is_no_list(self):
        for thing in no_lists() + ["0", {0: 0}, {0, 1}, range(2)]:
            refuses(self, NoNumbers, turned, THREE, [0, 1, 0], thing)
            refuses(self, NoNumbers, turned, ONE, [], thing)


class Written(unittest.TestCase):

    def test_ordinary(self):
        web = web_of("a b c; ab bc")
        self.assertEqual(pointing_text(web, [0, 0]), "a>b b>c")
        self.assertEqual(pointing_text(web, [1, 0]), "b>a b>c")
        self.assertEqual(pointing_text(web, (0, 1)), "a>b c>b")

    def test_ties_told_the_other_way_about(self):
        self.assertEqual(pointing_text(ROW, [0, 0, 0]), "a>b c>b c>d")
        self.assertEqual(pointing_text(ROW, [1, 1, 1]), "b>a b>c d>c")

    def test_without_ties(self):
        for web in [ONE, web_of("a b")]:
            self.assertEqual(pointing_text(web, []), "")
            self.assertEqual(pointing_text(web, ()), "")

    def test_longer_names(self):
        self.assertEqual(pointing_text(LONG, [0, 1, 0, 1, 1]), "a>aa ab>aa ab>b a>b ab>a")

    def test_what_is_handed_in_stays(self):
        pointing = [0, 1, 0]
        pointing_text(THREE, pointing)
        self.assertEqual(pointing, [0, 1, 0])

    def test_no_pointing(self):
        for thing in no_pointings(THREE):
            refuses(self, NoPointing, pointing_text, THREE, thing)
        refuses(self, NoPointing, pointing_text, ONE, [0])
        refuses(self, NoPointing, pointing_text, ONE, "")


class Read(unittest.TestCase):

    def test_read_back(self):
        for web in sample_webs() + [LONG]:
            for pointing in some_pointings(web):
                text = pointing_text(web, pointing)
                self.assertIs(type(text), str)
                back = read_pointing(web, text)
                self.assertIs(type(back), list)
                self.assertEqual(back, pointing)
                self.assertEqual([type(lead) for lead in back], [int] * len(back))

    def test_ordinary(self):
        self.assertEqual(read_pointing(web_of("a b c; ab bc"), "a>b c>b"), [0, 1])
        self.assertEqual(read_pointing(ONE, ""), [])
        self.assertEqual(read_pointing(web_of("a b; ba"), "a>b"), [1])

    def test_ties_between_the_same_points(self):
        for pointing, text in [([0, 0], "a>b b>a"), ([0, 1], "a>b a>b"), ([1, 0], "b>a b>a"), ([1, 1], "b>a a>b")]:
            self.assertEqual(pointing_text(TWO_TIES, pointing), text)
            self.assertEqual(read_pointing(TWO_TIES, text), pointing)

    def test_a_new_list_each_time(self):
        read_pointing(THREE, "a>b b>c c>a").append(7)
        self.assertEqual(read_pointing(THREE, "a>b b>c c>a"), [0, 0, 0])


class NotRead(unittest.TestCase):

    def refuse(self, web, texts):
        for text in texts:
            refuses(self, NoText, read_pointing, web, text)

    def test_what_is_no_text(self):
        things = [thing for thing in no_lists() if not isinstance(thing, str)]
        things += [[], (), [0, 0, 0], (0, 1, 0), ["a>b", "b>c", "c>a"], b"a>b b>c c>a", ["a>b b>c c>a"], [""]]
        self.refuse(THREE, things)
        self.refuse(ONE, things)

    def test_the_empty_text_where_there_are_ties(self):
        for web in [THREE, TWO_TIES, web_of("a b; ab"), LARGE]:
            self.refuse(web, ["", " ", "  ", "\n"])

    def test_any_text_where_there_are_no_ties(self):
        for web in [ONE, web_of("a b")]:
            self.refuse(web, [" ", "  ", "a", "a>b", ">", "a>a", "\n", "\t", "-", "\"\""])

    def test_blanks(self):
        self.refuse(THREE, ["a>b  b>c c>a", "a>b b>c  c>a", "a>bb>c c>a", "a>b b>cc>a", " a>b b>c c>a", "a>b b>c c>a ",
                            "a >b b>c c>a", "a> b b>c c>a", "a > b b > c c > a", "  a>b b>c c>a", "a>b b>c c>a  ",
                            "a>bb>cc>a", " a>bb>c c>a"])
        self.refuse(web_of("a b; ab"), [" a>b", "a>b ", "a >b", "a> b", " a>b ", "a>b  "])

    def test_tabs_and_line_feeds(self):
        self.refuse(THREE, ["a>b\tb>c c>a", "a>b b>c\nc>a", "a>b b>c c>a\n", "a>b b>c c>a\t", "\na>b b>c c>a",
                            "\ta>b b>c c>a", "a>b\n b>c c>a", "a>\tb b>c c>a", "a>b b>c c>a\n\n"])
        self.refuse(web_of("a b; ab"), ["a>b\n", "\na>b", "a>b\t", "\ta>b", "a\n>b"])

    def test_a_word_too_few_or_too_many(self):
        self.refuse(THREE, ["a>b", "a>b b>c", "b>c c>a", "a>b b>c c>a a>b", "a>b b>c c>a c>a", "a>b a>b b>c c>a"])
        self.refuse(TWO_TIES, ["a>b", "b>a", "a>b b>a a>b"])

    def test_words_exchanged(self):
        self.refuse(THREE, ["b>c a>b c>a", "c>a b>c a>b", "a>b c>a b>c"])

    def test_a_word_of_another_tie(self):
        self.refuse(THREE, ["a>b b>c a>b", "a>b a>b c>a", "c>a b>c c>a", "a>b a>c c>a", "a>b b>c b>c"])
        self.refuse(NINE_RING, [pointing_text(NINE_RING, [0] * 9).replace("g>h", "h>h"),
                                pointing_text(NINE_RING, [0] * 9).replace("i>h", "a>h")])
        self.refuse(web_of("a b c; ab"), ["a>c", "b>c", "c>a", "a>a", "b>b", "a>d", "x>y"])

    def test_other_signs(self):
        self.refuse(THREE, ["a-b b-c c-a", "a-b b>c c>a", "a>b b>c c-a", "a<b b>c c>a", "b<a b>c c>a", "a>>b b>c c>a",
                            "a>b>c b>c c>a", "ab b>c c>a", ">ab b>c c>a", "ab> b>c c>a", "A>B B>C C>A", "A>b b>c c>a",
                            "a>b, b>c, c>a", "a>b;b>c;c>a", "a>b b>c c>a.", "a=b b>c c>a", "a>b b>c c>a;", "0 0 0",
                            "000", "a->b b->c c->a", "(a>b b>c c>a)", "~", ">", "> > >", "a b c", "a> b> c>"])

    def test_names_that_begin_alike(self):
        good = "a>aa aa>ab ab>b b>a a>ab"
        self.assertEqual(read_pointing(LONG, good), [0] * 5)
        self.refuse(LONG, ["a>a aa>ab ab>b b>a a>ab", "a>aaa aa>ab ab>b b>a a>ab", "a>aa a>ab ab>b b>a a>ab",
                           "a>aa aa>ab a>b b>a a>ab", "a>aa aa>ab ab>b b>a a>a"])


if __name__ == "__main__":
    unittest.main()
