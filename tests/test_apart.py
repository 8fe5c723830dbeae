"""Ways apart: promise 23, and 2, 3 and 4 where they bear on it."""

import itertools
import random
import unittest

from pointways.apart import ways_apart
from pointways.errors import NoPoint, NoPointing
from pointways.reaching import way
from pointways.webs import reordered
from things import (FULL, LARGE, ONE, PARTED, RING, TWO_TIES, all_pointings, arcs_of, chance_webs, distances,
                    ends_of_way, into, no_names, no_pointings, refuses, sample_webs, some_lots, some_pointings, told,
                    web_of)

THREE = web_of("a b c; ab bc ca")
# The one way of fewest ties from s to t, along a and d, shares ties with both of the two that are apart.
CROSSED = web_of("s a d t x y p q; sa ad dt ax xy yt sp pq qd")


class WaysApart(unittest.TestCase):

    def held(self, web, pointing, a, b):
        """The told ways are apart, and the lot shows that there are no more; how many they are."""
        answer = ways_apart(web, pointing, a, b)
        self.assertIs(type(answer), tuple)
        ways, lot = answer
        self.assertIs(type(ways), list)
        for numbers in ways:
            self.assertIs(type(numbers), list)
            self.assertEqual([number for number in numbers if type(number) is not int], [])
            self.assertEqual(ends_of_way(web, pointing, numbers), (a, b))
        gone = [number for numbers in ways for number in numbers]
        self.assertEqual(len(gone), len(set(gone)))
        self.assertIs(type(lot), list)
        self.assertIn(lot, some_lots(web))
        self.assertIn(b, lot)
        self.assertNotIn(a, lot)
        self.assertEqual(into(web, pointing, lot), len(ways))
        return len(ways)

    def least(self, web, pointing, a, b):
        """How few ties lead into a lot that has b and not a, by trying all."""
        return min(into(web, pointing, lot) for lot in some_lots(web) if b in lot and a not in lot)

    def test_against_all_lots(self):
        chance = random.Random(31)
        for web in sample_webs() + chance_webs(32, 150, 9, 20):
            pointing = [chance.randint(0, 1) for _ in range(web.many())]
            for a, b in itertools.permutations(web.points(), 2):
                self.assertEqual(self.held(web, pointing, a, b), self.least(web, pointing, a, b))

    def test_all_pointings_of_small_webs(self):
        for web in [web_of("a b"), web_of("b a; ab"), TWO_TIES, THREE, RING, FULL, PARTED]:
            for pointing in all_pointings(web):
                for a, b in itertools.permutations(web.points(), 2):
                    self.held(web, pointing, a, b)

    def test_the_way_of_fewest_ties_is_in_the_way(self):
        self.assertEqual(way(CROSSED, [0] * 9, "s", "t"), [0, 1, 2])
        left = [arc for at, arc in enumerate(arcs_of(CROSSED, [0] * 9)) if at not in (0, 1, 2)]
        self.assertNotIn("t", distances(left, "s"))
        self.assertEqual(self.held(CROSSED, [0] * 9, "s", "t"), 2)
        ways, _ = ways_apart(CROSSED, [0] * 9, "s", "t")
        self.assertEqual(sorted(ways), [[0, 3, 4, 5], [6, 7, 8, 2]])
        chance = random.Random(35)
        for _ in range(30):
            order = chance.sample(range(9), 9)
            self.assertEqual(self.held(reordered(CROSSED, order), [0] * 9, "s", "t"), 2)

    def test_ordinary(self):
        self.assertEqual(ways_apart(THREE, [0, 0, 0], "a", "c")[0], [[0, 1]])
        self.assertEqual(ways_apart(THREE, [0, 0, 0], "c", "a")[0], [[2]])
        self.assertEqual(sorted(ways_apart(THREE, [0, 0, 1], "a", "c")[0]), [[0, 1], [2]])
        self.assertEqual(sorted(ways_apart(web_of("a b; ab ba ab"), [0, 1, 0], "a", "b")[0]), [[0], [1], [2]])
        self.assertEqual(self.held(web_of("a b; " + "ab " * 20), [0] * 20, "a", "b"), 20)

    def test_no_way(self):
        self.assertEqual(ways_apart(THREE, [0, 0, 1], "c", "a"), ([], ["a", "b"]))
        self.assertEqual(ways_apart(web_of("b a"), [], "a", "b"), ([], ["b"]))
        for a, b in [("a", "x"), ("y", "b"), ("x", "a")]:
            self.assertEqual(self.held(PARTED, [0, 0, 0, 0], a, b), 0)

    def test_a_pointing_as_a_tuple(self):
        self.assertEqual(ways_apart(THREE, (0, 0, 1), "a", "c"), ways_apart(THREE, [0, 0, 1], "a", "c"))

    def test_nine_points_and_twenty_ties(self):
        for pointing in some_pointings(LARGE):
            for a, b in itertools.permutations(LARGE.points(), 2):
                self.assertEqual(self.held(LARGE, pointing, a, b), self.least(LARGE, pointing, a, b))

    def test_no_pointing_goes_ahead(self):
        for thing in no_pointings(THREE):
            refuses(self, NoPointing, ways_apart, THREE, thing, "a", "b")
        for thing in [[0, 0], [0, 0, 2], None, "000", {}, [True, 0, 0]]:
            for a, b in [("z", "a"), ("a", "z"), ("a", "a"), (None, 0), ("z", "z"), (["a"], "a")]:
                refuses(self, NoPointing, ways_apart, THREE, thing, a, b)
        for thing in [[0], None, "", {}]:
            refuses(self, NoPointing, ways_apart, ONE, thing, "a", "a")

    def test_no_point(self):
        for thing in no_names() + ["z", "ab", "d"]:
            refuses(self, NoPoint, ways_apart, THREE, [0, 0, 1], thing, "a")
            refuses(self, NoPoint, ways_apart, THREE, [0, 0, 1], "a", thing)
            refuses(self, NoPoint, ways_apart, THREE, [0, 0, 1], thing, thing)
            refuses(self, NoPoint, ways_apart, ONE, [], thing, "a")

    def test_one_point_told_twice(self):
        for point in "abc":
            for pointing in [[0, 0, 0], [0, 0, 1], (1, 1, 1)]:
                refuses(self, NoPoint, ways_apart, THREE, pointing, point, point)
        refuses(self, NoPoint, ways_apart, ONE, [], "a", "a")

    def test_what_is_handed_in_stays_and_may_be_changed(self):
        pointing = [0, 0, 1]
        ways, lot = ways_apart(THREE, pointing, "a", "c")
        before = sorted(map(list, ways)), list(lot)
        self.assertEqual(pointing, [0, 0, 1])
        pointing.clear()
        self.assertEqual((sorted(ways), lot), before)

    def test_what_is_told_is_its_asker_s_own(self):
        before = ways_apart(FULL, [0] * 6, "a", "d")
        ways, lot = ways_apart(FULL, [0] * 6, "a", "d")
        for numbers in ways:
            numbers.clear()
        ways.clear()
        lot.append("z")
        self.assertEqual(ways_apart(FULL, [0] * 6, "a", "d"), before)
        self.assertEqual(told(FULL), told(web_of("a b c d; ab ac ad bc bd cd")))


if __name__ == "__main__":
    unittest.main()
