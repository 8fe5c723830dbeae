"""Clusters and the ties that bar: promises 9 and 10."""

import itertools
import unittest

from pointways.clusters import bars, clusters
from pointways.webs import Web
from things import (FULL, HUNG, LARGE, NINE_RING, ONE, PARTED, RING, ROW, SHARED, TREE_AND_RING, TWO_TIES, chance_webs,
                    crossed_by, own_clusters, sample_webs, told, web_of)


class Clusters(unittest.TestCase):

    def test_one_point(self):
        self.assertEqual(clusters(ONE), [["a"]])
        self.assertEqual(clusters(Web(["zzzz"], [])), [["zzzz"]])

    def test_points_without_ties(self):
        self.assertEqual(clusters(web_of("b a c")), [["b"], ["a"], ["c"]])

    def test_two_clusters_whose_points_stand_mixed(self):
        self.assertEqual(clusters(PARTED), [["a", "b"], ["x", "y"]])
        self.assertEqual(clusters(web_of("d a c b; ab cd")), [["d", "c"], ["a", "b"]])
        self.assertEqual(clusters(web_of("e d c b a; ac ec bd")), [["e", "c", "a"], ["d", "b"]])

    def test_a_cluster_beside_a_point(self):
        self.assertEqual(clusters(web_of("b c a; ab")), [["b", "a"], ["c"]])
        self.assertEqual(clusters(web_of("c b a; ab")), [["c"], ["b", "a"]])

    def test_ties_told_either_way_about(self):
        for leads in itertools.product([0, 1], repeat=3):
            ties = [tie[::-1] if lead else tie for tie, lead in zip(["ab", "cb", "cd"], leads)]
            self.assertEqual(clusters(web_of("d b a c; " + " ".join(ties))), [["d", "b", "a", "c"]])

    def test_a_ring_of_nine_points(self):
        self.assertEqual(clusters(NINE_RING), [list("abcdefghi")])

    def test_a_long_row_against_the_order(self):
        self.assertEqual(clusters(web_of("e a d b c; ab cb cd ed")), [list("eadbc")])

    def test_names_that_begin_alike(self):
        web = Web(["ab", "a", "b", "abab"], [("ab", "b"), ("a", "abab")])
        self.assertEqual(clusters(web), [["ab", "b"], ["a", "abab"]])

    def test_against_the_test_s_own_sets(self):
        for web in sample_webs() + chance_webs(9, 150, 9, 10):
            points = web.points()
            wanted = sorted([sorted(one, key=points.index) for one in own_clusters(web)],
                            key=lambda one: points.index(one[0]))
            self.assertEqual(clusters(web), wanted)

    def test_the_kinds(self):
        for web in sample_webs():
            self.assertIs(type(clusters(web)), list)
            for one in clusters(web):
                self.assertIs(type(one), list)

    def test_what_is_told_is_its_asker_s_own(self):
        for web in sample_webs():
            before, was = clusters(web), told(web)
            again = clusters(web)
            for one in again:
                one.clear()
            again.append("z")
            again.reverse()
            self.assertEqual(clusters(web), before)
            self.assertEqual(told(web), was)


class Bars(unittest.TestCase):

    def test_no_tie(self):
        self.assertEqual(bars(ONE), [])
        self.assertEqual(bars(web_of("b a c")), [])

    def test_one_tie(self):
        self.assertEqual(bars(web_of("a b; ab")), [(0, ["b"])])
        self.assertEqual(bars(web_of("a b; ba")), [(0, ["a"])])

    def test_a_row_of_points(self):
        self.assertEqual(bars(ROW), [(0, ["b", "c", "d"]), (1, ["a", "b"]), (2, ["d"])])

    def test_in_a_ring_none_bars(self):
        for web in [RING, NINE_RING, FULL, SHARED, LARGE, PARTED]:
            self.assertEqual(bars(web), [])

    def test_of_two_ties_between_the_same_points_neither_bars(self):
        self.assertEqual(bars(TWO_TIES), [])
        self.assertEqual(bars(web_of("a b; ab ab")), [])
        self.assertEqual(bars(web_of("a b c; ab ba cb")), [(2, ["a", "b"])])

    def test_rings_hung_together_by_a_tie(self):
        self.assertEqual(bars(HUNG), [(6, ["x", "y", "z"])])
        self.assertEqual(bars(TREE_AND_RING), [(3, ["a", "b", "c"]), (4, ["e"])])

    def test_webs_that_are_not_joined(self):
        self.assertEqual(bars(web_of("a x b y; ab xy yx")), [(0, ["b"])])
        self.assertEqual(bars(web_of("a b c d e; ab cb ed")), [(0, ["b", "c"]), (1, ["a", "b"]), (2, ["d"])])

    def test_against_the_test_s_own_sets(self):
        for web in sample_webs() + chance_webs(10, 150, 9, 11):
            points = web.points()
            wanted = []
            for number, (first, second) in enumerate(web.ties()):
                side = [one for one in own_clusters(web, number) if second in one][0]
                if first not in side:
                    wanted.append((number, sorted(side, key=points.index)))
            self.assertEqual(bars(web), wanted)

    def test_the_tie_alone_crosses_its_lot(self):
        for web in sample_webs() + chance_webs(11, 60, 9, 8):
            for number, lot in bars(web):
                self.assertIn(web.ties()[number][1], lot)
                self.assertNotIn(web.ties()[number][0], lot)
                self.assertEqual(crossed_by(web, lot), [number])

    def test_the_kinds(self):
        for web in sample_webs():
            self.assertIs(type(bars(web)), list)
            numbers = []
            for one in bars(web):
                self.assertIs(type(one), tuple)
                number, lot = one
                self.assertIs(type(number), int)
                self.assertIs(type(lot), list)
                numbers.append(number)
            self.assertEqual(numbers, sorted(set(numbers)))

    def test_what_is_told_is_its_asker_s_own(self):
        for web in sample_webs():
            before, was = bars(web), told(web)
            again = bars(web)
            for _, lot in again:
                lot.append("z")
            again.clear()
            self.assertEqual(bars(web), before)
            self.assertEqual(told(web), was)


if __name__ == "__main__":
    unittest.main()
