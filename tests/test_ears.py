"""Ear rows, told, read and refused: promise 11, and 2 and 3 where they bear on it."""

import itertools
import unittest

from pointways.clusters import bars, clusters
from pointways.ears import ears, reads_ears
from pointways.errors import Barred, Parted
from pointways.webs import Web, renamed, reordered
from things import (FULL, HUNG, LARGE, NINE_RING, ONE, PARTED, RING, ROW, SHARED, TREE_AND_RING, TWO_TIES, Anything,
                    Like, chance_webs, crossed_by, no_lists, no_names, no_numbers, put, refuses, told, web_of)

EARED = [ONE, TWO_TIES, RING, NINE_RING, SHARED, FULL, LARGE, web_of("b a; ab ab ba"), web_of("c b a; ab bc ca bc")]
SMALL = [TWO_TIES, web_of("b a; ab ab ba"), web_of("c b a; ab bc ca bc"), RING, SHARED, FULL]


def steps_on(web, here, number):
    """The point to which a tie goes on from here, None where it isn't there."""
    first, second = web.ties()[number]
    return {first: second, second: first}.get(here)


def ears_from(web, met, gone, start, numbers, here, between):
    """All ears that begin with these numbers, gone along as far as here."""
    rows = []
    for number in range(web.many()):
        goal = steps_on(web, here, number)
        if goal is None or number in gone or number in numbers:
            continue
        if goal in met:
            rows.append((start, numbers + (number,), between))
        elif goal not in between:
            rows += ears_from(web, met, gone, start, numbers + (number,), goal, between + (goal,))
    return rows


def all_rows(web, met, gone):
    """All ear rows that go on where these points are met and these ties gone, as tuples."""
    if len(gone) == web.many():
        return [()] if len(met) == len(web.points()) else []
    rows = []
    for start in met:
        for _, numbers, between in ears_from(web, met, gone, start, (), start, ()):
            rest = all_rows(web, met + between, gone + numbers)
            rows += [((start, numbers),) + row for row in rest]
    return rows


def rows_of(web):
    """All ear rows of a web, as tuples."""
    return all_rows(web, (web.points()[0],), ())


def deep_tuple(thing):
    return tuple(deep_tuple(one) for one in thing) if isinstance(thing, (list, tuple)) else thing


def deep_list(thing):
    return [deep_list(one) for one in thing] if isinstance(thing, (list, tuple)) else thing


class Told(unittest.TestCase):

    def go_along(self, web, row):
        """The row is gone along step by step, and gives the web."""
        met, gone = [web.points()[0]], []
        self.assertIs(type(row), list)
        for ear in row:
            self.assertIs(type(ear), tuple)
            start, numbers = ear
            self.assertIs(type(numbers), list)
            self.assertGreaterEqual(len(numbers), 1)
            self.assertIn(start, met)
            here, between = start, []
            for at, number in enumerate(numbers):
                self.assertIs(type(number), int)
                self.assertIn(here, web.ties()[number])
                here = steps_on(web, here, number)
                if at < len(numbers) - 1:
                    self.assertNotIn(here, met)
                    self.assertNotIn(here, between)
                    between.append(here)
            self.assertIn(here, met)
            met += between
            gone += numbers
        self.assertEqual(sorted(met), sorted(web.points()))
        self.assertEqual(sorted(gone), list(range(web.many())))
        self.assertEqual(len(row), web.many() + 1 - len(web.points()))

    def good(self, web):
        row = ears(web)
        self.go_along(web, row)
        self.assertIs(reads_ears(web, row), True)

    def test_one_point_without_ties(self):
        self.assertEqual(ears(ONE), [])
        self.good(ONE)

    def test_two_points_and_two_ties(self):
        for text in ["a b; ab ba", "a b; ab ab", "b a; ab ab", "b a; ba ba"]:
            self.good(web_of(text))
        self.assertEqual(len(ears(TWO_TIES)), 1)

    def test_a_ring(self):
        self.good(RING)
        self.good(NINE_RING)

    def test_rings_that_share_a_point(self):
        for order in itertools.permutations(SHARED.points()):
            self.good(Web(order, SHARED.ties()))

    def test_nine_points_and_twenty_ties(self):
        self.good(LARGE)

    def test_the_first_point_in_any_place(self):
        for web in EARED:
            for at in range(len(web.points())):
                points = web.points()
                self.good(Web(points[at:] + points[:at], web.ties()))
                self.good(Web(points[at:] + points[:at], [tie[::-1] for tie in web.ties()]))

    def test_ties_in_another_order(self):
        for order in itertools.permutations(range(6)):
            self.good(reordered(FULL, order))

    def test_webs_by_chance(self):
        many = 0
        for web in chance_webs(1, 500, 9, 20):
            if len(clusters(web)) == 1 and bars(web) == []:
                self.good(web)
                many += 1
        self.assertGreater(many, 100)

    def test_what_is_told_is_its_asker_s_own(self):
        for web in EARED:
            before, was = deep_list(ears(web)), told(web)
            again = ears(web)
            for _, numbers in again:
                numbers.clear()
            again.append(None)
            self.assertEqual(deep_list(ears(web)), before)
            self.assertEqual(told(web), was)


class Refused(unittest.TestCase):

    def test_parted_with_the_first_cluster(self):
        for web in [PARTED, web_of("a b"), web_of("b a c"), web_of("a b c; ab"), web_of("c a b; ab"),
                    web_of("a x b y; ab xy yx"), web_of("d a c b; ab cd ba dc")]:
            with self.assertRaises(Parted) as caught:
                ears(web)
            self.assertIs(type(caught.exception.lot), list)
            self.assertEqual(caught.exception.lot, clusters(web)[0])
        with self.assertRaises(Parted) as caught:
            ears(web_of("b x a y; ab xy"))
        self.assertEqual(caught.exception.lot, ["b", "a"])

    def test_barred_with_a_tie_and_its_lot(self):
        for web in [web_of("a b; ab"), web_of("a b; ba"), ROW, HUNG, TREE_AND_RING, web_of("a b c; ab ba ab bc")]:
            with self.assertRaises(Barred) as caught:
                ears(web)
            tie, lot = caught.exception.tie, caught.exception.lot
            self.assertIs(type(tie), int)
            self.assertIs(type(lot), list)
            self.assertIn((tie, lot), bars(web))
            self.assertEqual(crossed_by(web, lot), [tie])
            self.assertIn(web.ties()[tie][1], lot)

    def test_told_or_refused_by_chance(self):
        for web in chance_webs(2, 300, 7, 10):
            if len(clusters(web)) > 1:
                refuses(self, Parted, ears, web)
            elif bars(web):
                refuses(self, Barred, ears, web)
            else:
                self.assertTrue(reads_ears(web, ears(web)))

    def test_the_lot_is_its_asker_s_own(self):
        for web, error in [(PARTED, Parted), (HUNG, Barred)]:
            with self.assertRaises(error) as caught:
                ears(web)
            before = list(caught.exception.lot)
            caught.exception.lot.append("z")
            with self.assertRaises(error) as caught:
                ears(web)
            self.assertEqual(caught.exception.lot, before)
            self.assertEqual(told(web), told(Web(web.points(), web.ties())))

    def test_webs_without_ear_rows_read_none(self):
        for web in [PARTED, HUNG, ROW, web_of("a b"), web_of("a b; ab")]:
            self.assertEqual(rows_of(web), [])
            for row in [[], [("a", [0])], [("a", [0, 0])], [("a", list(range(web.many())))]]:
                self.assertIs(reads_ears(web, row), False)
        self.assertIs(reads_ears(HUNG, [("a", [0, 1, 2]), ("c", [6]), ("x", [3, 4, 5])]), False)


class Read(unittest.TestCase):

    def test_all_ear_rows_of_small_webs(self):
        for web in SMALL:
            rows = rows_of(web)
            self.assertGreater(len(rows), 1)
            self.assertIn(deep_tuple(ears(web)), rows)
            for row in rows:
                self.assertIs(reads_ears(web, row), True)
                self.assertIs(reads_ears(web, deep_list(row)), True)
                self.assertIs(reads_ears(web, [(start, list(numbers)) for start, numbers in row]), True)
                self.assertIs(reads_ears(web, tuple([start, numbers] for start, numbers in row)), True)

    def test_rows_with_something_changed(self):
        for web in SMALL:
            rows = set(rows_of(web))
            seen = {True: 0, False: 0}
            for row in sorted(rows)[:60]:
                for other in self.changed(web, row):
                    self.assertIs(reads_ears(web, other), other in rows, (told(web), other))
                    seen[other in rows] += 1
            self.assertGreater(seen[False], 10)

    def changed(self, web, row):
        """Rows that are unlike this one in an ear, a start or a number, or in their order."""
        rows = list(itertools.permutations(row))
        for at, (start, numbers) in enumerate(row):
            rows.append(row[:at] + row[at + 1:])
            rows.append(row[:at] + (row[at],) + row[at:])
            for point in web.points():
                rows.append(row[:at] + ((point, numbers),) + row[at + 1:])
                rows.append(row[:at] + ((point, numbers[::-1]),) + row[at + 1:])
            for place in range(len(numbers)):
                rows.append(row[:at] + ((start, numbers[:place] + numbers[place + 1:]),) + row[at + 1:])
                for number in range(web.many()):
                    changed = numbers[:place] + (number,) + numbers[place + 1:]
                    longer = numbers[:place] + (number,) + numbers[place:]
                    rows.append(row[:at] + ((start, changed),) + row[at + 1:])
                    rows.append(row[:at] + ((start, longer),) + row[at + 1:])
        return rows

    def test_another_order_another_start_turned_about(self):
        web = web_of("a b c d; ab bc ca cd da")
        for row in [[("a", [0, 1, 2]), ("c", [3, 4])], [("a", [2, 1, 0]), ("a", [4, 3])],
                    [("a", [4, 3, 2]), ("c", [1, 0])], [("a", [0, 1, 3, 4]), ("a", [2])],
                    [("a", [0, 1, 3, 4]), ("c", [2])]]:
            self.assertIs(reads_ears(web, row), True)
        # Behind the first ear only a and d are met besides c, so the second one can't begin at b.
        self.assertIs(reads_ears(web, [("a", [2, 3, 4]), ("b", [0, 1])]), False)

    def test_one_point_without_ties(self):
        for thing in [[], ()]:
            self.assertIs(reads_ears(ONE, thing), True)
        for thing in [[()], [("a", [])], [("a", [0])], [[]], ["a"], [None]]:
            self.assertIs(reads_ears(ONE, thing), False)

    def test_no_ear_of_other_webs(self):
        for web in EARED[1:] + [PARTED, HUNG, ROW, web_of("a b"), web_of("a b; ab")]:
            for thing in [[], ()]:
                self.assertIs(reads_ears(web, thing), False)

    def test_what_is_told_of_one_web_is_read_of_its_like(self):
        names = dict(zip("abcd", ["x", "aa", "dd", "q"]))
        row = [(names[start], numbers) for start, numbers in ears(FULL)]
        self.assertIs(reads_ears(renamed(FULL, names), row), True)
        self.assertIs(reads_ears(FULL, row), False)


class NotRead(unittest.TestCase):
    """Each row is wrong in one way, of a ring of three with a second way between two of its points."""

    web = web_of("a b c d; ab bc ca cd da")
    row = [("a", [0, 1, 2]), ("c", [3, 4])]

    def none(self, *things):
        for thing in things:
            self.assertIs(reads_ears(self.web, thing), False, repr(thing))

    def test_the_row_itself_is_one(self):
        self.assertIs(reads_ears(self.web, self.row), True)

    def test_an_ear_left_out_or_told_twice(self):
        self.none(self.row[:1], self.row[1:], self.row + self.row[:1], self.row + self.row[1:], [self.row[0]] * 2)

    def test_a_tie_twice_in_one_ear(self):
        self.none([("a", [0, 0]), ("a", [0, 1, 2]), ("c", [3, 4])], [("a", [0, 1, 2]), ("c", [3, 3])],
                  [("a", [0, 0, 0, 1, 2]), ("c", [3, 4])])

    def test_a_tie_twice_in_two_ears(self):
        self.none([("a", [0, 1, 2]), ("c", [2]), ("c", [3, 4])], [("a", [0, 1, 2]), ("c", [3, 4]), ("a", [0])],
                  [("a", [0, 1, 2]), ("c", [3, 4]), ("a", [4])])

    def test_a_start_that_is_not_met(self):
        self.none([("b", [1, 2, 0]), ("c", [3, 4])], [("c", [2, 0, 1]), ("c", [3, 4])], [("c", [3, 4]), self.row[0]],
                  [("a", [0, 1, 2]), ("d", [3]), ("d", [4])], [("a", [0, 1, 2]), ("d", [4])])

    def test_an_end_that_is_not_met(self):
        self.none([("a", [0, 1]), ("c", [2]), ("c", [3, 4])], [("a", [0, 1, 2]), ("c", [3]), ("d", [4])],
                  [("a", [0, 1, 2]), ("c", [3])], [("a", [0]), ("b", [1]), ("c", [2]), ("c", [3, 4])])

    def test_a_point_between_that_is_met_already(self):
        self.none([("a", [0, 1, 2, 4, 3])], [("a", [0, 1, 2, 4, 3]), ("a", [])])
        web = web_of("a b; ab ab ab ab")
        self.assertIs(reads_ears(web, [("a", [0, 1, 2, 3])]), False)
        self.assertIs(reads_ears(web, [("a", [0, 1]), ("a", [2, 3])]), False)
        self.assertIs(reads_ears(web, [("a", [0, 1]), ("a", [2]), ("b", [3])]), True)

    def test_a_point_met_twice_in_one_ear(self):
        web = web_of("a b c d; ab bc cd db da")
        self.assertIs(reads_ears(web, [("a", [0, 1, 2, 4]), ("b", [3])]), True)
        self.assertIs(reads_ears(web, [("a", [0, 1, 2, 3])]), False)
        shared = web_of("a b c d; ab bc cd db ba")
        self.assertIs(reads_ears(shared, [("a", [0, 1, 2, 3, 4])]), False)
        self.assertIs(reads_ears(shared, [("a", [0, 4]), ("b", [1, 2, 3])]), True)

    def test_a_point_that_is_met_twice_does_not_stand_for_one_that_is_not(self):
        one = web_of("a b c; ab ab ab ab")
        self.assertIs(reads_ears(one, [("a", [0, 1]), ("a", [2, 3])]), False)
        other = web_of("a b c d e; ab bc cd db ba")
        self.assertIs(reads_ears(other, [("a", [0, 1, 2, 3, 4])]), False)

    def test_a_tie_that_does_not_go_on(self):
        self.none([("a", [1, 0, 2]), ("c", [3, 4])], [("a", [0, 2, 1]), ("c", [3, 4])],
                  [("a", [0, 1, 2]), ("c", [4, 3])], [("a", [0, 1, 2]), ("a", [3, 4])],
                  [("a", [0, 3, 2]), ("c", [1, 4])])

    def test_points_or_ties_left_over(self):
        self.none([("a", [0, 1, 2])], [("a", [0, 1, 3, 4])])
        wider = web_of("a b c d e; ab bc ca cd da")
        self.assertIs(reads_ears(wider, self.row), False)

    def test_an_ear_of_no_ties(self):
        for empty in [[], ()]:
            self.none(self.row + [("a", empty)], [("a", empty)] + self.row, [("a", empty)])

    def test_a_number_beyond_or_below(self):
        self.none([("a", [0, 1, 5]), ("c", [3, 4])], [("a", [0, 1, -3]), ("c", [3, 4])],
                  [("a", [-5, 1, 2]), ("c", [3, 4])], [("a", [0, 1, 2]), ("c", [3, -1])],
                  self.row + [("a", [5])], self.row + [("a", [10 ** 17])], self.row + [("a", [-1])])

    def test_true_and_false_are_no_numbers(self):
        self.none([("a", [False, 1, 2]), ("c", [3, 4])], [("a", [0, True, 2]), ("c", [3, 4])])
        self.assertIs(reads_ears(TWO_TIES, [("a", [False, True])]), False)

    def test_a_thing_in_the_place_of_a_number(self):
        for thing in no_numbers():
            for at in range(3):
                self.none([("a", put([0, 1, 2], at, thing)), ("c", [3, 4])])
            self.none(self.row + [("a", [thing])], [("a", [0, 1, 2, thing]), ("c", [3, 4])])

    def test_a_thing_in_the_place_of_the_numbers(self):
        for thing in no_lists() + ["012", {0: 0, 1: 1, 2: 2}, 0]:
            self.none([("a", thing), ("c", [3, 4])], self.row + [("a", thing)])

    def test_a_thing_in_the_place_of_a_start(self):
        for thing in no_names() + ["z", "aa"]:
            self.none([(thing, [0, 1, 2]), ("c", [3, 4])], [("a", [0, 1, 2]), (thing, [3, 4])])

    def test_a_pair_of_other_than_two_things(self):
        for ear in [("a",), ["a"], ("a", [0, 1, 2], []), ("a", [0, 1, 2], None), (), [], ([0, 1, 2],),
                    ("a", 0, 1, 2), ([0, 1, 2], "a")]:
            self.none([ear, ("c", [3, 4])], self.row + [ear], [ear])

    def test_a_thing_in_the_place_of_an_ear(self):
        for thing in no_lists() + ["a0", {"a": [0, 1, 2]}, {"start": "a", "numbers": [0, 1, 2]}]:
            self.none([thing, ("c", [3, 4])], self.row + [thing], [thing], (thing,))

    def test_what_is_no_list(self):
        for thing in no_lists() + [{"a": [0, 1, 2], "c": [3, 4]}, "a 0 1 2", Like(self.row), Anything()]:
            self.none(thing)
            self.assertIs(reads_ears(ONE, thing), False)

    def test_what_is_handed_in_stays(self):
        for row in [[["a", [0, 1, 2]], ["c", [3, 4]]], [["a", [0, 1, 2]], ["c", [3]]], [["a", [0, 1, 2]], [[], {}]]]:
            before = deep_list(row)
            first = reads_ears(self.web, row)
            self.assertEqual(row, before)
            self.assertIs(reads_ears(self.web, row), first)


if __name__ == "__main__":
    unittest.main()
