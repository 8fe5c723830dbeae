"""K times over: promises 22 and 24, and 2, 3 and 4 where they bear on them."""

import random
import unittest

from pointways.errors import NoNumber, NoPointing, Thin
from pointways.over import pointed_over, times_over
from things import (FULL, HUNG, LARGE, NINE_RING, ONE, PARTED, RING, ROW, TWO_TIES, all_pointings, all_reach_all,
                    chance_webs, crossed_by, into, is_times_over, no_pointings, no_times, refuses, rings_web,
                    sample_webs, some_lots, some_pointings, told, web_of)

THREE = web_of("a b c; ab bc ca")
FULL_TWICE = web_of("a b c d; ab ac ad bc bd cd ba ac da bc db cd")


class TimesOver(unittest.TestCase):

    def held(self, web, pointing):
        """The told number and lot, held against all lots; the number."""
        answer = times_over(web, pointing)
        self.assertIs(type(answer), tuple)
        k, lot = answer
        self.assertIs(type(k), int)
        self.assertIs(type(lot), list)
        self.assertIn(lot, some_lots(web))
        self.assertEqual(into(web, pointing, lot), k)
        self.assertEqual(min(into(web, pointing, one) for one in some_lots(web)), k)
        self.assertEqual(k > 0, all_reach_all(web, pointing))
        return k

    def test_against_all_lots(self):
        chance = random.Random(27)
        for web in sample_webs() + chance_webs(28, 150, 9, 20):
            if len(web.points()) > 1:
                for pointing in some_pointings(web) + [[chance.randint(0, 1) for _ in range(web.many())]]:
                    k = self.held(web, pointing)
                    self.assertEqual(times_over(web, tuple(pointing))[0], k)

    def test_all_pointings_of_small_webs(self):
        for web in [web_of("a b"), web_of("b a; ab"), TWO_TIES, THREE, RING, FULL, ROW, PARTED]:
            for pointing in all_pointings(web):
                self.held(web, pointing)

    def test_ordinary(self):
        self.assertEqual(times_over(THREE, [0, 0, 0])[0], 1)
        self.assertEqual(times_over(THREE, [0, 0, 1]), (0, ["a"]))
        self.assertEqual(times_over(TWO_TIES, [0, 0])[0], 1)
        self.assertEqual(times_over(web_of("a b; ab ab ab ba ba"), [0] * 5), (2, ["a"]))
        self.assertEqual(times_over(web_of("a b; " + "ab ba " * 10), [0] * 20)[0], 10)
        self.assertEqual(times_over(web_of("a b c; ab"), [0])[0], 0)

    def test_one_point(self):
        self.assertIsNone(times_over(ONE, []))
        self.assertIsNone(times_over(ONE, ()))

    def test_nine_points_and_twenty_ties(self):
        for pointing in some_pointings(LARGE):
            self.held(LARGE, pointing)

    def test_no_pointing(self):
        for web in [THREE, RING]:
            for thing in no_pointings(web):
                refuses(self, NoPointing, times_over, web, thing)
        for thing in [[0], None, "", {}, 0, [[]]]:
            refuses(self, NoPointing, times_over, ONE, thing)

    def test_what_is_handed_in_stays_and_what_is_told_is_its_asker_s_own(self):
        pointing = [0, 0, 1]
        k, lot = times_over(THREE, pointing)
        self.assertEqual(pointing, [0, 0, 1])
        pointing.clear()
        self.assertEqual((k, lot), (0, ["a"]))
        lot.clear()
        self.assertEqual(times_over(THREE, [0, 0, 1]), (0, ["a"]))
        self.assertEqual(told(THREE), told(web_of("a b c; ab bc ca")))


class PointedOver(unittest.TestCase):

    def held(self, web, k):
        """A pointing k times over is told, or a lot that shows that there is none; whether it is told."""
        thin = [lot for lot in some_lots(web) if len(crossed_by(web, lot)) < 2 * k]
        if thin:
            with self.assertRaises(Thin) as caught:
                pointed_over(web, k)
            self.assertIs(type(caught.exception.lot), list)
            self.assertIn(caught.exception.lot, thin)
            return False
        pointing = pointed_over(web, k)
        self.assertIs(type(pointing), list)
        self.assertEqual(len(pointing), web.many())
        self.assertEqual([lead for lead in pointing if type(lead) is not int or lead not in (0, 1)], [])
        self.assertTrue(is_times_over(web, pointing, k))
        return True

    def test_webs_by_chance(self):
        good = {k: 0 for k in range(10)}
        for web in sample_webs() + chance_webs(29, 150, 9, 20) + chance_webs(30, 100, 3, 20):
            for k in range(10):
                good[k] += self.held(web, k)
        self.assertGreater(min(good[k] for k in range(5)), 10)

    def test_rings_through_all_points(self):
        for seed in range(25):
            for points, rings, more in [(9, 2, 2), (9, 2, 0), (8, 2, 4), (7, 2, 6), (6, 3, 2), (5, 3, 5), (5, 4, 0),
                                        (4, 5, 0), (4, 4, 3), (3, 6, 2)]:
                web = rings_web(seed, points, rings, more)
                for k in range(rings + 1):
                    self.assertTrue(self.held(web, k))
                for k in range(rings + 1, 10):
                    self.held(web, k)

    def test_two_points(self):
        for many in range(21):
            web = web_of("a b; " + "ab " * many)
            for k in range(10):
                self.assertEqual(self.held(web, k), many >= 2 * k)

    def test_points_of_an_odd_number_of_ties(self):
        odd = web_of("a b c d e f g h; ab bc cd de ef fg gh ha ae bf cg dh")
        self.assertTrue(self.held(odd, 1))
        self.assertFalse(self.held(odd, 2))
        self.assertTrue(self.held(FULL_TWICE, 3))
        self.assertFalse(self.held(FULL_TWICE, 4))
        for seed in range(10):
            self.assertTrue(self.held(rings_web(seed, 8, 2, 4), 2))

    def test_one_point(self):
        for k in range(10):
            self.assertEqual(pointed_over(ONE, k), [])

    def test_no_times(self):
        for web in [web_of("a b"), web_of("a b c; ab"), PARTED, ROW, HUNG]:
            self.assertTrue(self.held(web, 0))
            for k in range(1, 10):
                self.assertFalse(self.held(web, k))

    def test_once_over_all_reach_all(self):
        for web in [TWO_TIES, THREE, RING, FULL, NINE_RING, LARGE]:
            self.assertTrue(all_reach_all(web, pointed_over(web, 1)))

    def test_no_number(self):
        for thing in no_times():
            refuses(self, NoNumber, pointed_over, THREE, thing)
            refuses(self, NoNumber, pointed_over, ONE, thing)
            refuses(self, NoNumber, pointed_over, LARGE, thing)

    def test_no_number_goes_ahead_of_thin(self):
        for web in [PARTED, ROW, web_of("a b")]:
            for thing in [-1, 10, True, False, "1", None, [1], 10 ** 17, {}]:
                refuses(self, NoNumber, pointed_over, web, thing)

    def test_what_is_told_is_its_asker_s_own(self):
        before = pointed_over(THREE, 1)
        pointed_over(THREE, 1).clear()
        self.assertEqual(pointed_over(THREE, 1), before)
        with self.assertRaises(Thin) as caught:
            pointed_over(PARTED, 1)
        lot = list(caught.exception.lot)
        caught.exception.lot.clear()
        with self.assertRaises(Thin) as caught:
            pointed_over(PARTED, 1)
        self.assertEqual(caught.exception.lot, lot)
        self.assertEqual(told(THREE), told(web_of("a b c; ab bc ca")))


if __name__ == "__main__":
    unittest.main()
