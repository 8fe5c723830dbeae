"""Lots, and the ties that cross them or are within them: promise 8."""

import itertools
import unittest

from pointways.errors import NoLot
from pointways.lots import crossing, lot_of, within
from pointways.webs import Web
from things import no_lists, no_names, put, refuses, told

DEEDS = [lot_of, crossing, within]
POINTS = ["d", "a", "c", "b"]
TIES = [("a", "b"), ("b", "c"), ("c", "d"), ("d", "a"), ("a", "c"), ("c", "a"), ("a", "b")]


def web():
    return Web(POINTS, TIES)


def some_points(points):
    """All lots of these points, in order."""
    return [list(lot) for many in range(1, len(points)) for lot in itertools.combinations(points, many)]


class Lots(unittest.TestCase):

    def test_told_in_the_web_s_order(self):
        self.assertEqual(lot_of(web(), ["a", "b", "c"]), ["a", "c", "b"])
        self.assertEqual(lot_of(web(), ["b", "d"]), ["d", "b"])
        self.assertEqual(lot_of(web(), ["c"]), ["c"])

    def test_handed_in_in_any_order(self):
        for lot in some_points(POINTS):
            for order in itertools.permutations(lot):
                for handed in [order, list(order)]:
                    told_lot = lot_of(web(), handed)
                    self.assertIs(type(told_lot), list)
                    self.assertEqual(told_lot, lot)
                    self.assertEqual(crossing(web(), handed), crossing(web(), lot))
                    self.assertEqual(within(web(), handed), within(web(), lot))

    def test_names_that_begin_alike(self):
        one = Web(["ab", "a", "b", "abab"], [("ab", "a"), ("abab", "b")])
        self.assertEqual(lot_of(one, ["a", "ab"]), ["ab", "a"])
        self.assertEqual(crossing(one, ["ab"]), [0])
        self.assertEqual(within(one, ["b", "abab"]), [1])

    def test_what_is_handed_in_stays_and_may_be_changed(self):
        one, handed = web(), ["b", "a"]
        lot = lot_of(one, handed)
        crossing(one, handed)
        within(one, handed)
        self.assertEqual(handed, ["b", "a"])
        handed.append("c")
        self.assertEqual(lot, ["a", "b"])

    def test_what_is_told_is_its_asker_s_own(self):
        one, handed = web(), ["a", "b"]
        for deed in DEEDS:
            before = deed(one, handed)
            deed(one, handed).clear()
            deed(one, handed).append("z")
            self.assertEqual(deed(one, handed), before)
        self.assertEqual((handed, told(one)), (["a", "b"], (POINTS, TIES, 7)))


class Ties(unittest.TestCase):

    def test_crossing(self):
        self.assertEqual(crossing(web(), ["a"]), [0, 3, 4, 5, 6])
        self.assertEqual(crossing(web(), ["b", "a"]), [1, 3, 4, 5])
        self.assertEqual(crossing(web(), ["c", "b", "d"]), [0, 3, 4, 5, 6])

    def test_within(self):
        self.assertEqual(within(web(), ["b", "a"]), [0, 6])
        self.assertEqual(within(web(), ["c", "a"]), [4, 5])
        self.assertEqual(within(web(), ["c", "d", "a"]), [2, 3, 4, 5])

    def test_none(self):
        self.assertEqual(within(web(), ["a"]), [])
        self.assertEqual(within(web(), ["b", "d"]), [])
        parted = Web(["a", "b", "c", "d"], [("a", "b"), ("c", "d")])
        self.assertEqual(crossing(parted, ["b", "a"]), [])
        self.assertEqual(within(parted, ["b", "a"]), [0])
        self.assertEqual(crossing(Web(["a", "b"], []), ["a"]), [])
        self.assertEqual(within(Web(["a", "b"], []), ["a"]), [])

    def test_what_is_left_is_crossed_as_often(self):
        for lot in some_points(POINTS):
            left = [point for point in POINTS if point not in lot]
            self.assertEqual(crossing(web(), lot), crossing(web(), left))

    def test_each_tie_crosses_or_is_within_just_one(self):
        for lot in some_points(POINTS):
            left = [point for point in POINTS if point not in lot]
            numbers = crossing(web(), lot) + within(web(), lot) + within(web(), left)
            self.assertEqual(sorted(numbers), list(range(len(TIES))))
            for told_numbers in [crossing(web(), lot), within(web(), lot)]:
                self.assertEqual(told_numbers, sorted(told_numbers))
                for number in told_numbers:
                    self.assertIs(type(number), int)

    def test_nine_points_and_twenty_ties(self):
        points = list("abcdefghi")
        ties = list(itertools.combinations(points, 2))[:20]
        one = Web(points, ties)
        for lot in some_points(points):
            ends = [sum(end in lot for end in tie) for tie in ties]
            self.assertEqual(crossing(one, lot), [number for number in range(20) if ends[number] == 1])
            self.assertEqual(within(one, lot), [number for number in range(20) if ends[number] == 2])


class Refused(unittest.TestCase):

    def refuse(self, one, things):
        for thing in things:
            for deed in DEEDS:
                refuses(self, NoLot, deed, one, thing)

    def test_none_of_the_points(self):
        self.refuse(web(), [[], ()])

    def test_all_of_the_points(self):
        self.refuse(web(), [POINTS, tuple(POINTS), sorted(POINTS)])
        self.refuse(Web(["a", "b"], []), [["a", "b"], ("b", "a")])

    def test_a_point_twice(self):
        self.refuse(web(), [["a", "a"], ["a", "b", "a"], ("c", "c", "c"), ["a", "b", "c", "a"], POINTS + ["a"]])

    def test_a_name_that_is_no_point(self):
        self.refuse(web(), [["z"], ["a", "z"], ["ab"], ["a", "bc"], ["a", "b", "c", "z"], ["z", "y"]])

    def test_a_thing_of_another_kind(self):
        for thing in no_names():
            self.refuse(web(), [[thing], (thing,), ["a", thing], [thing, "a"], put(["a", "b", "c"], 1, thing)])

    def test_what_is_no_list(self):
        self.refuse(web(), no_lists() + [{"a": 1}, {"a": "b", "b": "a"}, {"a", "b"}])

    def test_a_web_of_one_point(self):
        self.refuse(Web(["a"], []), [["a"], ("a",), [], (), ["b"], ["a", "a"], "a", None, {}, {"a": 1}, 0, [None]])


if __name__ == "__main__":
    unittest.main()
