"""Pointings by which all reach all, and by the ears of an ear row: promise 15, and 4 for it."""

import unittest

from pointways.clusters import bars, clusters
from pointways.ears import ears
from pointways.errors import Barred, NoEars, Parted
from pointways.pointed import by_ears, pointed
from pointways.pointings import is_pointing
from pointways.webs import Web
from things import (FULL, HUNG, LARGE, NINE_RING, ONE, PARTED, RING, ROW, SHARED, TREE_AND_RING, TWO_TIES,
                    all_pointings, all_reach_all, chance_webs, crossed_by, no_lists, no_names, no_numbers, put, refuses,
                    told, web_of)

EARED = [ONE, TWO_TIES, RING, NINE_RING, SHARED, FULL, LARGE, web_of("b a; ab ab ba"), web_of("c b a; ab bc ca bc")]
CHAIN = web_of("a b c d e f g; ab bc ca cd de ec ef fg ge")


class Pointed(unittest.TestCase):

    def good(self, web):
        pointing = pointed(web)
        self.assertIs(type(pointing), list)
        self.assertTrue(is_pointing(web, pointing))
        self.assertTrue(all_reach_all(web, pointing), (told(web), pointing))

    def test_one_point(self):
        self.assertEqual(pointed(ONE), [])

    def test_rings_and_rings_hung_together(self):
        for web in [TWO_TIES, RING, NINE_RING, SHARED, CHAIN]:
            self.good(web)

    def test_nine_points_and_twenty_ties(self):
        self.good(LARGE)
        self.good(web_of("a b; " + "ab ba ba ab " * 5))

    def test_the_first_point_in_any_place(self):
        for web in EARED + [CHAIN]:
            for at in range(len(web.points())):
                points = web.points()
                self.good(Web(points[at:] + points[:at], web.ties()[::-1]))

    def test_told_just_where_there_is_one(self):
        for web in chance_webs(4, 200, 5, 7):
            there = any(all_reach_all(web, pointing) for pointing in all_pointings(web))
            if there:
                self.good(web)
            else:
                refuses(self, Parted if len(clusters(web)) > 1 else Barred, pointed, web)

    def test_webs_by_chance(self):
        for web in chance_webs(5, 400, 9, 20):
            if len(clusters(web)) == 1 and bars(web) == []:
                self.good(web)

    def test_parted_with_the_first_cluster(self):
        for web in [PARTED, web_of("a b"), web_of("b a c"), web_of("a b c; ab"), web_of("b x a y; ab xy")]:
            with self.assertRaises(Parted) as caught:
                pointed(web)
            self.assertIs(type(caught.exception), Parted)
            self.assertEqual(caught.exception.lot, clusters(web)[0])

    def test_barred_with_a_tie_and_its_lot(self):
        for web in [web_of("a b; ab"), ROW, HUNG, TREE_AND_RING]:
            with self.assertRaises(Barred) as caught:
                pointed(web)
            self.assertIn((caught.exception.tie, caught.exception.lot), bars(web))
            self.assertEqual(crossed_by(web, caught.exception.lot), [caught.exception.tie])

    def test_what_is_told_is_its_asker_s_own(self):
        for web in EARED:
            before, was = pointed(web), told(web)
            pointed(web).append(7)
            pointed(web).clear()
            self.assertEqual(pointed(web), before)
            self.assertEqual(told(web), was)
        with self.assertRaises(Parted) as caught:
            pointed(PARTED)
        caught.exception.lot.clear()
        with self.assertRaises(Parted) as caught:
            pointed(PARTED)
        self.assertEqual(caught.exception.lot, ["a", "b"])


class ByEars(unittest.TestCase):

    web = web_of("a b c d; ab bc ca cd da")
    rows = [[("a", [0, 1, 2]), ("c", [3, 4])], [("a", [2, 1, 0]), ("a", [4, 3])], [("a", [4, 3, 2]), ("c", [1, 0])],
            [("a", [0, 1, 3, 4]), ("a", [2])], [("a", [0, 1, 3, 4]), ("c", [2])]]

    def as_ears_go(self, web, row):
        """The pointing as the ears go, by the test's own going along."""
        leads = {}
        for start, numbers in row:
            here = start
            for number in numbers:
                first, second = web.ties()[number]
                leads[number] = 0 if here == first else 1
                here = second if here == first else first
        return [leads[number] for number in range(web.many())]

    def good(self, web, row):
        pointing = by_ears(web, row)
        self.assertIs(type(pointing), list)
        self.assertEqual(pointing, self.as_ears_go(web, row))
        self.assertEqual([type(lead) for lead in pointing], [int] * web.many())
        self.assertTrue(all_reach_all(web, pointing))

    def test_ordinary(self):
        self.assertEqual(by_ears(self.web, self.rows[0]), [0, 0, 0, 0, 0])
        self.assertEqual(by_ears(self.web, self.rows[1]), [1, 1, 1, 1, 1])
        self.assertEqual(by_ears(self.web, self.rows[3]), [0, 0, 1, 0, 0])
        self.assertEqual(by_ears(self.web, self.rows[4]), [0, 0, 0, 0, 0])

    def test_without_ears(self):
        self.assertEqual(by_ears(ONE, []), [])
        self.assertEqual(by_ears(ONE, ()), [])

    def test_the_told_row(self):
        for web in EARED + [CHAIN]:
            self.good(web, ears(web))
        for web in chance_webs(6, 300, 9, 20):
            if len(clusters(web)) == 1 and bars(web) == []:
                self.good(web, ears(web))

    def test_other_rows_as_lists_and_as_tuples(self):
        for row in self.rows:
            self.good(self.web, row)
            self.good(self.web, [[start, tuple(numbers)] for start, numbers in row])
            self.good(self.web, tuple((start, tuple(numbers)) for start, numbers in row))
            self.good(self.web, [[start, numbers] for start, numbers in row])

    def test_the_row_stays_and_may_be_changed(self):
        row = [["a", [0, 1, 2]], ["c", [3, 4]]]
        pointing = by_ears(self.web, row)
        self.assertEqual(row, [["a", [0, 1, 2]], ["c", [3, 4]]])
        row[0][1].clear()
        row.clear()
        self.assertEqual(pointing, [0, 0, 0, 0, 0])
        pointing.clear()
        self.assertEqual(by_ears(self.web, self.rows[0]), [0, 0, 0, 0, 0])

    def test_no_ears_of_several_points(self):
        for web in [self.web, TWO_TIES, RING, PARTED, ROW, web_of("a b")]:
            refuses(self, NoEars, by_ears, web, [])
            refuses(self, NoEars, by_ears, web, ())

    def test_an_ear_left_out_or_a_tie_twice(self):
        row = self.rows[0]
        for other in [row[:1], row[1:], row + row[:1], row + [("a", [0])], row[::-1],
                      [("a", [0, 1, 2, 2]), ("c", [3, 4])], [("a", [0, 0]), ("a", [0, 1, 2]), ("c", [3, 4])]]:
            refuses(self, NoEars, by_ears, self.web, other)

    def test_another_start(self):
        for start in ["b", "c", "d", "z", "aa"] + no_names():
            refuses(self, NoEars, by_ears, self.web, [(start, [0, 1, 2]), ("c", [3, 4])])
        for start in ["b", "d"]:
            refuses(self, NoEars, by_ears, self.web, [("a", [0, 1, 2]), (start, [3, 4])])

    def test_things_of_other_kinds(self):
        for thing in no_lists() + [{"a": [0, 1, 2], "c": [3, 4]}]:
            refuses(self, NoEars, by_ears, self.web, thing)
            refuses(self, NoEars, by_ears, ONE, thing)
            refuses(self, NoEars, by_ears, self.web, [thing, ("c", [3, 4])])
            refuses(self, NoEars, by_ears, self.web, [("a", thing), ("c", [3, 4])])
        for thing in no_numbers() + [5, -1, -5]:
            refuses(self, NoEars, by_ears, self.web, [("a", put([0, 1, 2], 1, thing)), ("c", [3, 4])])

    def test_webs_that_have_none(self):
        refuses(self, NoEars, by_ears, HUNG, [("a", [0, 1, 2]), ("c", [6]), ("x", [3, 4, 5])])
        refuses(self, NoEars, by_ears, PARTED, [("a", [0, 2])])


if __name__ == "__main__":
    unittest.main()
