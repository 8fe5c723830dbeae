"""How far, and the farthest: promise 28, and 2, 3 and 4 where they bear on it."""

import itertools
import random
import unittest

from pointways.errors import NoPoint, NoPointing
from pointways.farthest import far, farthest
from pointways.pointed import pointed
from things import (FULL, LARGE, NINE_RING, ONE, PARTED, RING, ROW, SHARED, TWO_TIES, all_pointings, all_reach_all,
                    arcs_of, chance_webs, distances, no_names, no_pointings, refusal_of, refuses, sample_webs,
                    some_pointings, told, web_of)

THREE = web_of("a b c; ab bc ca")


def cases():
    """Webs, each with a few pointings or all."""
    chance = random.Random(38)
    for web in sample_webs() + chance_webs(39, 120, 9, 20):
        for pointing in all_pointings(web) if web.many() <= 5 else some_pointings(web):
            yield web, pointing
        yield web, [chance.randint(0, 1) for _ in range(web.many())]
        refused, pointing = refusal_of(pointed, web)
        if refused is None:
            yield web, pointing


class Far(unittest.TestCase):

    def test_any_two_points(self):
        for web, pointing in cases():
            arcs = arcs_of(web, pointing)
            for a, b in itertools.product(web.points(), repeat=2):
                many = far(web, pointing, a, b)
                self.assertEqual(many, distances(arcs, a).get(b))
                self.assertIn(type(many), [int, type(None)])

    def test_ordinary(self):
        self.assertEqual(far(THREE, [0, 0, 0], "a", "c"), 2)
        self.assertEqual(far(THREE, (0, 0, 1), "a", "c"), 1)
        self.assertIsNone(far(THREE, [0, 0, 1], "c", "a"))
        self.assertIsNone(far(PARTED, [0] * 4, "a", "x"))
        for point in "abc":
            self.assertEqual(far(THREE, [0, 0, 1], point, point), 0)
        self.assertEqual(far(ONE, [], "a", "a"), 0)

    def test_no_pointing_goes_ahead(self):
        for thing in no_pointings(THREE):
            refuses(self, NoPointing, far, THREE, thing, "a", "b")
        for thing in [[0, 0], [0, 0, 2], None, "000", {}, [True, 0, 0]]:
            for a, b in [("z", "a"), ("a", "z"), (None, 0), ("z", "z"), (["a"], "a")]:
                refuses(self, NoPointing, far, THREE, thing, a, b)

    def test_no_point(self):
        for thing in no_names() + ["z", "ab", "d"]:
            refuses(self, NoPoint, far, THREE, [0, 0, 1], thing, "a")
            refuses(self, NoPoint, far, THREE, [0, 0, 1], "a", thing)
            refuses(self, NoPoint, far, THREE, [0, 0, 1], thing, thing)
            refuses(self, NoPoint, far, ONE, [], thing, "a")

    def test_what_is_handed_in_stays(self):
        pointing = [0, 0, 0]
        far(THREE, pointing, "a", "c")
        farthest(THREE, pointing)
        self.assertEqual(pointing, [0, 0, 0])
        self.assertEqual(told(THREE), told(web_of("a b c; ab bc ca")))


class Farthest(unittest.TestCase):

    def held(self, web, pointing):
        """The farthest is told, by the test's own count; whether there is one."""
        answer = farthest(web, pointing)
        self.assertEqual(answer is None, not all_reach_all(web, pointing))
        if answer is None:
            return False
        self.assertIs(type(answer), tuple)
        many, a, b = answer
        self.assertIs(type(many), int)
        arcs = arcs_of(web, pointing)
        self.assertEqual(many, max(max(distances(arcs, point).values()) for point in web.points()))
        self.assertEqual(distances(arcs, a)[b], many)
        return True

    def test_webs(self):
        some = [self.held(web, pointing) for web, pointing in cases()]
        self.assertGreater(some.count(True), 50)
        self.assertGreater(some.count(False), 50)

    def test_all_pointings_of_small_webs(self):
        for web in [TWO_TIES, THREE, RING, SHARED, FULL, ROW]:
            for pointing in all_pointings(web):
                self.held(web, pointing)

    def test_ordinary(self):
        self.assertEqual(farthest(THREE, [0, 0, 0])[0], 2)
        self.assertEqual(farthest(TWO_TIES, [0, 0])[0], 1)
        self.assertEqual(farthest(NINE_RING, [0, 0, 1, 0, 0, 1, 0, 1, 0])[0], 8)
        self.assertEqual(farthest(web_of("a b c; ab bc cb ba"), [0, 0, 0, 0]), farthest(
            web_of("a b c; ab bc cb ba"), (0, 0, 0, 0)))

    def test_one_point(self):
        self.assertEqual(farthest(ONE, []), (0, "a", "a"))
        self.assertEqual(farthest(web_of("z"), ()), (0, "z", "z"))

    def test_none(self):
        self.assertIsNone(farthest(THREE, [0, 0, 1]))
        self.assertIsNone(farthest(web_of("a b"), []))
        self.assertIsNone(farthest(PARTED, [0] * 4))
        # From the first point all are reached, and yet not from all.
        self.assertIsNone(farthest(web_of("a b; ab"), [0]))
        self.assertIsNone(farthest(web_of("a b; ab"), [1]))

    def test_no_pointing(self):
        for web in [THREE, LARGE]:
            for thing in no_pointings(web):
                refuses(self, NoPointing, farthest, web, thing)
        for thing in [[0], None, "", {}, 0]:
            refuses(self, NoPointing, farthest, ONE, thing)


if __name__ == "__main__":
    unittest.main()
