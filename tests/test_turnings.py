"""Fewest ties turned, and as many lots that show it: promise 18, and 2, 3 and 4 where they bear on it."""

import itertools
import random
import unittest

from pointways.clusters import bars, clusters
from pointways.errors import Barred, NoPointing, Parted, TooMuch
from pointways.pointed import pointed
from pointways.pointings import turned
from pointways.turnings import fewest
from things import (FULL, HUNG, LARGE, NINE_RING, ONE, PARTED, RING, ROW, SHARED, TREE_AND_RING, TWO_TIES,
                    all_pointings, all_reach_all, arcs_of, chance_webs, crossed_by, no_pointings, refuses, some_lots,
                    some_pointings, told, web_of)

THREE = web_of("a b c; ab bc ca")
CHAIN = web_of("a b c d e f g; ab bc ca cd de ec ef fg ge")
THREE_BY_FOUR = web_of("a b c w x y z; aw ax ay az bw bx by bz cw cx cy cz")
TWO_BY_SIX = web_of("a b u v w x y z; au av aw ax ay az bu bv bw bx by bz")
THIRTEEN = web_of("a b c w x y z; aw ax ay az bw bx by bz cw cx cy cz ab")


def along_the_order(web):
    """The pointing by which each tie leads to the later point."""
    order = web.points()
    return [0 if order.index(first) < order.index(second) else 1 for first, second in web.ties()]


def has_ears(web):
    return len(clusters(web)) == 1 and bars(web) == []


class Fewest(unittest.TestCase):

    def good(self, web, pointing):
        """The told ties do, and the told lots show that fewer don't; how many they are."""
        answer = fewest(web, pointing)
        self.assertIs(type(answer), tuple)
        numbers, lots = answer
        self.assertIs(type(numbers), list)
        self.assertIs(type(lots), list)
        self.assertEqual(numbers, sorted(set(numbers)))
        self.assertEqual([number for number in numbers if type(number) is not int], [])
        self.assertTrue(all_reach_all(web, turned(web, pointing, numbers)))
        self.assertEqual(len(lots), len(numbers))
        arcs, crossed = arcs_of(web, pointing), []
        for lot in lots:
            self.assertIs(type(lot), list)
            self.assertIn(lot, some_lots(web))
            self.assertEqual([arc for arc in arcs if arc[0] not in lot and arc[1] in lot], [])
            crossed += crossed_by(web, lot)
        self.assertEqual(len(crossed), len(set(crossed)))
        return len(numbers)

    def least(self, web, pointing):
        """How many ties have to be turned, by trying all sets."""
        for many in range(web.many() + 1):
            for numbers in itertools.combinations(range(web.many()), many):
                other = [1 - lead if at in numbers else lead for at, lead in enumerate(pointing)]
                if all_reach_all(web, other):
                    return many
        return None

    def test_where_all_reach_all(self):
        for web in [TWO_TIES, THREE, RING, NINE_RING, SHARED, FULL, CHAIN, THREE_BY_FOUR]:
            pointing = pointed(web)
            self.assertEqual(fewest(web, pointing), ([], []))
            self.assertEqual(fewest(web, tuple(pointing)), ([], []))

    def test_one_point(self):
        self.assertEqual(fewest(ONE, []), ([], []))

    def test_ordinary(self):
        self.assertEqual(self.good(THREE, [0, 0, 1]), 1)
        self.assertEqual(self.good(TWO_TIES, [0, 1]), 1)
        self.assertEqual(fewest(TWO_TIES, [0, 1])[1], [["a"]])
        self.assertEqual(self.good(RING, [0, 0, 0, 0]), 1)
        self.assertEqual(self.good(RING, [0, 0, 0, 1]), 2)

    def test_against_all_sets_of_ties(self):
        webs = [web for web in chance_webs(13, 400, 5, 7) if has_ears(web)] + [TWO_TIES, THREE, RING, FULL, SHARED]
        self.assertGreater(len(webs), 60)
        seen = set()
        for web in webs:
            for pointing in some_pointings(web) + [along_the_order(web)]:
                many = self.good(web, pointing)
                self.assertEqual(many, self.least(web, pointing))
                seen.add(many)
        self.assertLessEqual({0, 1, 2}, seen)

    def test_all_pointings_of_small_webs(self):
        for web in [TWO_TIES, THREE, RING, FULL, SHARED]:
            for pointing in all_pointings(web):
                self.assertEqual(self.good(web, pointing), self.least(web, pointing))

    def test_rings_hung_together(self):
        for pointing in [[0] * 9, [1] * 9, [0, 0, 1] * 3, [1, 0, 0, 0, 1, 0, 0, 0, 1], [0, 1, 0] * 3]:
            self.assertEqual(self.good(CHAIN, pointing), self.least(CHAIN, pointing))
        self.assertEqual(self.good(CHAIN, [0, 0, 1] * 3), 3)
        self.assertEqual(self.good(CHAIN, [0, 0, 0, 0, 0, 1, 0, 0, 0]), 1)

    def test_along_an_order_of_the_points(self):
        for web in [TWO_TIES, THREE, RING, NINE_RING, SHARED, FULL, CHAIN]:
            pointing = along_the_order(web)
            self.assertFalse(all_reach_all(web, pointing))
            self.assertEqual(self.good(web, pointing), self.least(web, pointing))

    def test_twelve_ties(self):
        self.assertEqual(self.good(THREE_BY_FOUR, [0] * 12), 4)
        self.assertEqual(self.good(TWO_BY_SIX, [0] * 12), 6)
        self.assertEqual(self.good(web_of("a b; " + "ab " * 12), [0] * 12), 1)
        self.assertEqual(self.good(TWO_BY_SIX, [1] * 12), 6)

    def test_nine_points_and_twelve_ties(self):
        web = web_of("a b c d e f g h i; ab cb cd ed ef gf gh ih ia ca ge bh")
        for pointing in some_pointings(web) + [along_the_order(web)]:
            self.assertEqual(self.good(web, pointing), self.least(web, pointing))

    def test_webs_by_chance(self):
        chance, many = random.Random(14), 0
        for web in chance_webs(15, 1200, 9, 12):
            if has_ears(web):
                self.good(web, [chance.randint(0, 1) for _ in range(web.many())])
                self.good(web, along_the_order(web))
                many += 1
        self.assertGreater(many, 200)

    def test_what_is_handed_in_stays_and_may_be_changed(self):
        pointing = [0, 0, 1]
        numbers, lots = fewest(THREE, pointing)
        before = list(numbers), [list(lot) for lot in lots]
        self.assertEqual(pointing, [0, 0, 1])
        pointing.clear()
        self.assertEqual((numbers, lots), before)

    def test_what_is_told_is_its_asker_s_own(self):
        before = fewest(RING, [0, 0, 0, 1])
        numbers, lots = fewest(RING, [0, 0, 0, 1])
        numbers.clear()
        for lot in lots:
            lot.append("z")
        lots.pop()
        self.assertEqual(fewest(RING, [0, 0, 0, 1]), before)
        numbers, lots = fewest(THREE, [0, 0, 0])
        numbers.append(7)
        lots.append(7)
        self.assertEqual(fewest(THREE, [0, 0, 0]), ([], []))
        self.assertEqual(told(RING), told(web_of("a b c d; ab cb cd da")))


class Refused(unittest.TestCase):

    def test_no_pointing(self):
        for web in [THREE, RING]:
            for thing in no_pointings(web):
                refuses(self, NoPointing, fewest, web, thing)
        for thing in [[0], None, "", {}]:
            refuses(self, NoPointing, fewest, ONE, thing)

    def test_no_pointing_goes_first(self):
        for web in [LARGE, THIRTEEN, PARTED, ROW, HUNG]:
            many = web.many()
            for thing in [[0] * (many - 1), [0] * (many + 1), [2] * many, [True] * many, None, "0" * many, {}]:
                refuses(self, NoPointing, fewest, web, thing)

    def test_too_much(self):
        for web in [THIRTEEN, LARGE, web_of("a b; " + "ab " * 13), web_of("a b; " + "ab ba " * 10)]:
            for pointing in some_pointings(web):
                refuses(self, TooMuch, fewest, web, pointing)
            refuses(self, TooMuch, fewest, web, pointed(web))

    def test_too_much_goes_ahead_of_parted_and_barred(self):
        for web in [web_of("a b c; " + "ab " * 13), web_of("a b c; bc " + "ab " * 12), web_of("a b c; " + "ab " * 20),
                    web_of("a b c d; cd " + "ab ba " * 6)]:
            for pointing in some_pointings(web):
                refuses(self, TooMuch, fewest, web, pointing)

    def test_parted(self):
        for web in [PARTED, web_of("a b"), web_of("a b c; ab"), web_of("b x a y; ab xy yx"),
                    web_of("a b c; " + "ab " * 12)]:
            for pointing in some_pointings(web):
                with self.assertRaises(Parted) as caught:
                    fewest(web, pointing)
                self.assertEqual(caught.exception.lot, clusters(web)[0])

    def test_barred(self):
        for web in [web_of("a b; ab"), ROW, HUNG, TREE_AND_RING, web_of("a b c; cb " + "ab " * 11)]:
            for pointing in some_pointings(web):
                with self.assertRaises(Barred) as caught:
                    fewest(web, pointing)
                self.assertIn((caught.exception.tie, caught.exception.lot), bars(web))

    def test_the_lot_is_its_asker_s_own(self):
        for web, error in [(PARTED, Parted), (HUNG, Barred)]:
            pointing = [0] * web.many()
            with self.assertRaises(error) as caught:
                fewest(web, pointing)
            before = list(caught.exception.lot)
            caught.exception.lot.clear()
            with self.assertRaises(error) as caught:
                fewest(web, pointing)
            self.assertEqual(caught.exception.lot, before)


if __name__ == "__main__":
    unittest.main()
