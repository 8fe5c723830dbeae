"""Ins, and ties that lead into a lot: promise 19, and 2 and 3 where they bear on it."""

import itertools
import unittest

from pointways.errors import NoLot, NoPointing
from pointways.ins import entering, ins_of
from pointways.lots import within
from pointways.webs import Web
from things import (FULL, LARGE, ONE, RING, ROW, TWO_TIES, all_pointings, arcs_of, chance_webs, no_lists, no_names,
                    no_pointings, refuses, sample_webs, some_lots, some_pointings, told, web_of)

THREE = web_of("a b c; ab bc ca")


def cases():
    """Webs, each with a few pointings or all."""
    for web in sample_webs() + chance_webs(16, 30, 7, 20):
        for pointing in all_pointings(web) if web.many() <= 4 else some_pointings(web):
            yield web, pointing


class Ins(unittest.TestCase):

    def test_a_number_for_each_point(self):
        for web, pointing in cases():
            ins = ins_of(web, pointing)
            self.assertIs(type(ins), list)
            self.assertEqual([type(many) for many in ins], [int] * len(web.points()))
            goals = [goal for _, goal in arcs_of(web, pointing)]
            self.assertEqual(ins, [sum(goal == point for goal in goals) for point in web.points()])
            self.assertEqual(sum(ins), web.many())
            self.assertEqual(ins_of(web, tuple(pointing)), ins)

    def test_ordinary(self):
        self.assertEqual(ins_of(ONE, []), [0])
        self.assertEqual(ins_of(web_of("a b"), ()), [0, 0])
        self.assertEqual(ins_of(THREE, [0, 0, 0]), [1, 1, 1])
        self.assertEqual(ins_of(THREE, [0, 0, 1]), [0, 1, 2])
        self.assertEqual(ins_of(web_of("c b a; ab bc ca"), [0, 0, 1]), [2, 1, 0])
        self.assertEqual(ins_of(TWO_TIES, [0, 1]), [0, 2])
        self.assertEqual(ins_of(ROW, [0, 0, 0]), [0, 2, 0, 1])

    def test_names_that_begin_alike(self):
        web = Web(["ab", "a", "aa"], [("ab", "a"), ("aa", "a"), ("a", "aa")])
        self.assertEqual(ins_of(web, [0, 0, 0]), [0, 2, 1])

    def test_what_is_handed_in_stays_and_may_be_changed(self):
        pointing = [0, 0, 1]
        ins = ins_of(THREE, pointing)
        self.assertEqual(pointing, [0, 0, 1])
        pointing.clear()
        self.assertEqual(ins, [0, 1, 2])

    def test_what_is_told_is_its_asker_s_own(self):
        ins_of(THREE, [0, 0, 1]).clear()
        ins_of(THREE, [0, 0, 1])[0] = 7
        self.assertEqual(ins_of(THREE, [0, 0, 1]), [0, 1, 2])
        self.assertEqual(told(THREE), told(web_of("a b c; ab bc ca")))

    def test_no_pointing(self):
        for thing in no_pointings(THREE):
            refuses(self, NoPointing, ins_of, THREE, thing)
        for thing in [[0], None, "", {}, 0]:
            refuses(self, NoPointing, ins_of, ONE, thing)


class Entering(unittest.TestCase):

    def test_every_lot(self):
        for web, pointing in cases():
            arcs, ins = arcs_of(web, pointing), dict(zip(web.points(), ins_of(web, pointing)))
            for lot in some_lots(web):
                many = entering(web, pointing, lot)
                self.assertIs(type(many), int)
                self.assertEqual(many, sum(origin not in lot and goal in lot for origin, goal in arcs))
                self.assertEqual(many, sum(ins[point] for point in lot) - len(within(web, lot)))

    def test_handed_in_in_any_order(self):
        for pointing in all_pointings(FULL)[::5]:
            for lot in some_lots(FULL):
                wanted = entering(FULL, pointing, lot)
                for order in itertools.permutations(lot):
                    self.assertEqual(entering(FULL, pointing, order), wanted)
                    self.assertEqual(entering(FULL, tuple(pointing), list(order)), wanted)

    def test_by_the_same_ins_as_many(self):
        alike = {}
        for pointing in all_pointings(FULL):
            row = [entering(FULL, pointing, lot) for lot in some_lots(FULL)]
            alike.setdefault(tuple(ins_of(FULL, pointing)), []).append(row)
        self.assertTrue(any(len(rows) > 1 for rows in alike.values()))
        for rows in alike.values():
            for row in rows:
                self.assertEqual(row, rows[0])

    def test_ordinary(self):
        self.assertEqual(entering(THREE, [0, 0, 1], ["a"]), 0)
        self.assertEqual(entering(THREE, [0, 0, 1], ["c"]), 2)
        self.assertEqual(entering(THREE, [0, 0, 1], ["c", "b"]), 2)
        self.assertEqual(entering(RING, [0, 0, 0, 0], ("d", "b")), 3)

    def test_what_is_handed_in_stays(self):
        pointing, lot = [0, 0, 1], ["c", "b"]
        entering(THREE, pointing, lot)
        self.assertEqual((pointing, lot), ([0, 0, 1], ["c", "b"]))
        self.assertEqual(entering(THREE, pointing, lot), 2)

    def test_no_pointing_goes_ahead(self):
        for thing in no_pointings(THREE):
            refuses(self, NoPointing, entering, THREE, thing, ["a"])
        for thing in [[0, 0], [0, 0, 2], None, "000", {}, [True, 0, 0]]:
            for lot in [[], ["a", "a"], ["z"], ["a", "b", "c"], None, "a", 0, [None], {}]:
                refuses(self, NoPointing, entering, THREE, thing, lot)

    def test_no_lot(self):
        for lot in [[], (), ["a", "b", "c"], ("c", "b", "a"), ["a", "a"], ["a", "b", "a"], ["z"], ["a", "z"], ["ab"]]:
            refuses(self, NoLot, entering, THREE, [0, 0, 1], lot)
        for thing in no_names():
            refuses(self, NoLot, entering, THREE, [0, 0, 1], [thing])
            refuses(self, NoLot, entering, THREE, [0, 0, 1], ("a", thing))
        for thing in no_lists() + [{"a": 1}, {"a", "b"}]:
            refuses(self, NoLot, entering, THREE, [0, 0, 1], thing)

    def test_a_web_of_one_point_has_none(self):
        for thing in [["a"], ("a",), [], (), ["b"], "a", None]:
            refuses(self, NoLot, entering, ONE, [], thing)

    def test_nine_points_and_twenty_ties(self):
        pointing = [0, 1] * 10
        self.assertEqual(sum(ins_of(LARGE, pointing)), 20)
        for point, many in zip(LARGE.points(), ins_of(LARGE, pointing)):
            self.assertEqual(entering(LARGE, pointing, [point]), many)


if __name__ == "__main__":
    unittest.main()
