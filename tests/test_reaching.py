"""Ways, what a point reaches, shut lots: promises 13 and 14, and 2 and 3 where they bear on them."""

import unittest

from pointways.errors import NoPoint, NoPointing
from pointways.pointings import turned
from pointways.reaching import reached, shut_lot, way
from pointways.webs import Web
from things import (FULL, HUNG, LARGE, NINE_RING, ONE, PARTED, RING, ROW, TWO_TIES, all_pointings, all_reach_all,
                    arcs_of, chance_webs, distances, no_names, no_pointings, refuses, sample_webs, some_lots,
                    some_pointings, told, web_of)

THREE = web_of("a b c; ab bc ca")


def cases():
    """Webs, each with a few pointings or all."""
    several = [(web, pointing) for web in [TWO_TIES, RING, FULL, THREE, web_of("a b c; ab")]
               for pointing in all_pointings(web)]
    return several + [(web, pointing) for web in sample_webs() + chance_webs(3, 60, 9, 20)
                      for pointing in some_pointings(web)]


class Ways(unittest.TestCase):

    def go_along(self, web, pointing, a, b):
        """The told way is gone along, and counted against the test's own search."""
        arcs = arcs_of(web, pointing)
        far = distances(arcs, a)
        numbers = way(web, pointing, a, b)
        if b not in far:
            self.assertIsNone(numbers)
            return
        self.assertIs(type(numbers), list)
        self.assertEqual(len(numbers), far[b])
        here, met = a, [a]
        for number in numbers:
            self.assertIs(type(number), int)
            self.assertIn(number, range(web.many()))
            origin, goal = arcs[number]
            self.assertEqual(origin, here)
            self.assertNotIn(goal, met)
            met.append(goal)
            here = goal
        self.assertEqual(here, b)

    def test_every_two_points(self):
        for web, pointing in cases():
            for a in web.points():
                for b in web.points():
                    self.go_along(web, pointing, a, b)

    def test_to_the_point_itself(self):
        self.assertEqual(way(ONE, [], "a", "a"), [])
        for point in "abc":
            self.assertEqual(way(THREE, [0, 0, 0], point, point), [])

    def test_ordinary(self):
        self.assertEqual(way(THREE, [0, 0, 0], "a", "c"), [0, 1])
        self.assertEqual(way(THREE, [0, 0, 1], "a", "c"), [2])
        self.assertEqual(way(ROW, [0, 1, 0], "a", "d"), [0, 1, 2])
        self.assertEqual(way(NINE_RING, (0, 0, 1, 0, 0, 1, 0, 1, 0), "b", "a"), [1, 2, 3, 4, 5, 6, 7, 8])

    def test_none_leads(self):
        self.assertIsNone(way(ROW, [0, 1, 0], "d", "a"))
        self.assertIsNone(way(ROW, [0, 0, 0], "a", "c"))
        self.assertIsNone(way(PARTED, [0, 0, 0, 0], "a", "x"))
        self.assertIsNone(way(web_of("a b"), [], "a", "b"))

    def test_two_ties_between_the_same_points(self):
        self.assertEqual(way(TWO_TIES, [0, 0], "a", "b"), [0])
        self.assertEqual(way(TWO_TIES, [0, 0], "b", "a"), [1])
        self.assertIn(way(TWO_TIES, [0, 1], "a", "b"), [[0], [1]])
        self.assertIsNone(way(TWO_TIES, [0, 1], "b", "a"))

    def test_fewest_though_told_later(self):
        web = web_of("a b c d; ab bc cd ad")
        self.assertEqual(way(web, [0, 0, 0, 0], "a", "d"), [3])
        self.assertEqual(way(web, [0, 0, 0, 0], "a", "c"), [0, 1])

    def test_lists_and_tuples(self):
        for pointing in all_pointings(FULL):
            self.assertEqual(way(FULL, pointing, "a", "d"), way(FULL, tuple(pointing), "a", "d"))

    def test_what_is_told_is_its_asker_s_own(self):
        pointing = [0, 0, 0]
        numbers = way(THREE, pointing, "a", "c")
        numbers.clear()
        way(THREE, pointing, "a", "a").append(7)
        self.assertEqual(way(THREE, pointing, "a", "c"), [0, 1])
        self.assertEqual(way(THREE, pointing, "a", "a"), [])
        self.assertEqual(pointing, [0, 0, 0])

    def test_changed_behind_the_call(self):
        pointing = [0, 0, 0]
        numbers, points, lot = way(THREE, pointing, "a", "c"), reached(THREE, pointing, "a"), shut_lot(ROW, pointing)
        before = list(lot)
        pointing.clear()
        self.assertEqual((numbers, points, lot), ([0, 1], ["a", "b", "c"], before))


class Reached(unittest.TestCase):

    def test_against_the_test_s_own_search(self):
        for web, pointing in cases():
            arcs = arcs_of(web, pointing)
            for point in web.points():
                points = reached(web, pointing, point)
                self.assertIs(type(points), list)
                far = distances(arcs, point)
                self.assertEqual(points, [other for other in web.points() if other in far])
                self.assertIn(point, points)

    def test_ordinary(self):
        self.assertEqual(reached(ONE, [], "a"), ["a"])
        self.assertEqual(reached(ROW, (0, 0, 0), "c"), ["b", "c", "d"])
        self.assertEqual(reached(ROW, [0, 0, 0], "b"), ["b"])
        self.assertEqual(reached(web_of("c b a; ab bc"), [0, 0], "a"), ["c", "b", "a"])

    def test_what_is_told_is_its_asker_s_own(self):
        pointing = [0, 0, 0]
        reached(ROW, pointing, "c").clear()
        self.assertEqual(reached(ROW, pointing, "c"), ["b", "c", "d"])
        self.assertEqual((pointing, told(ROW)), ([0, 0, 0], told(web_of("a b c d; ab cb cd"))))


class ShutLots(unittest.TestCase):

    def test_none_just_where_all_reach_all(self):
        seen = {True: 0, False: 0}
        for web, pointing in cases():
            lot = shut_lot(web, pointing)
            self.assertIs(lot is None, all_reach_all(web, pointing))
            seen[lot is None] += 1
            if lot is not None:
                self.assertIs(type(lot), list)
                self.assertIn(lot, some_lots(web))
                self.assertEqual([arc for arc in arcs_of(web, pointing) if arc[0] not in lot and arc[1] in lot], [])
        self.assertGreater(min(seen.values()), 50)

    def test_one_point(self):
        self.assertIsNone(shut_lot(ONE, []))
        self.assertIsNone(shut_lot(ONE, ()))

    def test_ordinary(self):
        self.assertIsNone(shut_lot(THREE, [0, 0, 0]))
        self.assertIsNone(shut_lot(THREE, [1, 1, 1]))
        self.assertEqual(shut_lot(web_of("a b; ab"), [0]), ["a"])
        self.assertEqual(shut_lot(web_of("a b; ab"), [1]), ["b"])

    def test_webs_that_are_not_joined(self):
        for pointing in all_pointings(PARTED):
            self.assertIn(shut_lot(PARTED, pointing), some_lots(PARTED))
        self.assertIn(shut_lot(web_of("b a"), []), [["b"], ["a"]])

    def test_the_lot_is_its_asker_s_own(self):
        before = shut_lot(ROW, [0, 0, 0])
        shut_lot(ROW, [0, 0, 0]).append("z")
        self.assertEqual(shut_lot(ROW, [0, 0, 0]), before)

    def test_turned_behind_it(self):
        pointing = [0, 0, 0, 0]
        while shut_lot(RING, pointing) is not None:
            lot = shut_lot(RING, pointing)
            out = [at for at, arc in enumerate(arcs_of(RING, pointing)) if arc[0] in lot and arc[1] not in lot]
            pointing = turned(RING, pointing, out[:1])
        self.assertTrue(all_reach_all(RING, pointing))


class Refused(unittest.TestCase):

    def test_no_pointing(self):
        for thing in no_pointings(THREE):
            refuses(self, NoPointing, way, THREE, thing, "a", "b")
            refuses(self, NoPointing, reached, THREE, thing, "a")
            refuses(self, NoPointing, shut_lot, THREE, thing)
        for thing in [[0], None, "", {}, 0, [[]]]:
            refuses(self, NoPointing, shut_lot, ONE, thing)
            refuses(self, NoPointing, way, ONE, thing, "a", "a")
            refuses(self, NoPointing, reached, ONE, thing, "a")

    def test_no_pointing_goes_ahead(self):
        for thing in [[0, 0], [0, 0, 2], None, "000", {}, [0, 0, True]]:
            for point in ["z", None, 0, ["a"], ""]:
                refuses(self, NoPointing, way, THREE, thing, point, "a")
                refuses(self, NoPointing, way, THREE, thing, "a", point)
                refuses(self, NoPointing, way, THREE, thing, point, point)
                refuses(self, NoPointing, reached, THREE, thing, point)

    def refuse_point(self, web, pointing, point, good):
        refuses(self, NoPoint, way, web, pointing, point, good)
        refuses(self, NoPoint, way, web, pointing, good, point)
        refuses(self, NoPoint, way, web, pointing, point, point)
        refuses(self, NoPoint, reached, web, pointing, point)

    def test_names_that_the_web_has_not(self):
        for point in ["d", "z", "aa", "ab", "abc", "aaaa", "zzzz"]:
            self.refuse_point(THREE, [0, 1, 0], point, "a")
        for point in ["b", "aa"]:
            self.refuse_point(ONE, [], point, "a")

    def test_names_that_begin_alike(self):
        web = Web(["ab", "abc"], [("ab", "abc")])
        for point in ["a", "b", "c", "bc", "abcd", "ac"]:
            self.refuse_point(web, [0], point, "ab")

    def test_things_of_other_kinds(self):
        for thing in no_names() + [["a"], ("a",), {"a": 1}, ["a", "b"], 0, None, [], "a>b"]:
            self.refuse_point(THREE, [0, 1, 0], thing, "b")
            self.refuse_point(HUNG, [0] * 7, thing, "x")

    def test_the_web_stays(self):
        before = told(LARGE)
        way(LARGE, [0] * 20, "a", "i")
        reached(LARGE, [0] * 20, "a")
        shut_lot(LARGE, [0] * 20)
        self.assertEqual(told(LARGE), before)


if __name__ == "__main__":
    unittest.main()
