"""Rings from one pointing to another with the same ins: promise 25, and 2, 3 and 4 where they bear on it."""

import random
import unittest

from pointways.errors import NoPointing, Unlike
from pointways.rings import rings_between
from things import (FULL, LARGE, ONE, PARTED, RING, ROW, SHARED, TWO_TIES, all_pointings, arcs_of, chance_webs,
                    flipped, is_ring, no_pointings, own_ins, refuses, rings_web, sample_webs, some_pointings, told,
                    web_of)

THREE = web_of("a b c; ab bc ca")
EIGHT = web_of("a b c d e; ab bc ca ad de ea")


def a_ring(web, pointing, chance):
    """A ring of the pointing, found by walking by chance; None where the walk ends."""
    arcs = arcs_of(web, pointing)
    point, points, numbers = chance.choice(web.points()), [], []
    while point not in points:
        points.append(point)
        ready = [number for number, (origin, _) in enumerate(arcs) if origin == point]
        if not ready:
            return None
        numbers.append(chance.choice(ready))
        point = arcs[numbers[-1]][1]
    return numbers[points.index(point):]


class Rings(unittest.TestCase):

    def held(self, web, one, other):
        """The told rings lead from the one to the other; how many they are."""
        rings = rings_between(web, one, other)
        self.assertIs(type(rings), list)
        here, gone = list(one), []
        for ring in rings:
            self.assertIs(type(ring), list)
            self.assertEqual([number for number in ring if type(number) is not int], [])
            self.assertTrue(is_ring(web, here, ring))
            here = flipped(here, ring)
            self.assertEqual(own_ins(web, here), own_ins(web, one))
            gone += ring
        self.assertEqual(here, list(other))
        self.assertEqual(len(gone), len(set(gone)))
        return len(rings)

    def test_to_itself(self):
        for web in sample_webs():
            for pointing in some_pointings(web):
                self.assertEqual(rings_between(web, pointing, pointing), [])
                self.assertEqual(rings_between(web, pointing, tuple(pointing)), [])

    def test_ordinary(self):
        self.assertEqual(sorted(rings_between(THREE, [0, 0, 0], [1, 1, 1])[0]), [0, 1, 2])
        self.assertEqual(self.held(THREE, [1, 1, 1], [0, 0, 0]), 1)
        self.assertEqual(self.held(TWO_TIES, [0, 0], [1, 1]), 1)
        self.assertEqual(self.held(RING, [0, 1, 0, 0], [1, 0, 1, 1]), 1)
        self.assertEqual(self.held(PARTED, [0, 0, 0, 0], [1, 1, 1, 1]), 2)
        self.assertEqual(self.held(web_of("a b; ab ab ba ba"), [0, 0, 0, 0], [1, 1, 1, 1]), 2)

    def test_rings_that_share_a_point(self):
        self.assertEqual(self.held(EIGHT, [0] * 6, [1] * 6), 2)
        self.assertEqual(self.held(SHARED, [0] * 6, [1] * 6), 2)

    def test_any_two_pointings_of_small_webs(self):
        for web in [web_of("a b"), TWO_TIES, THREE, RING, ROW, FULL, PARTED, SHARED]:
            alike = {}
            for pointing in all_pointings(web):
                alike.setdefault(tuple(own_ins(web, pointing)), []).append(pointing)
            for pointings in alike.values():
                for one in pointings:
                    for other in pointings:
                        self.held(web, one, tuple(other))

    def test_turned_in_rings_one_after_another(self):
        chance, several = random.Random(33), 0
        webs = [LARGE] * 20 + chance_webs(34, 200, 9, 20) + [rings_web(seed, 7, 2, 6) for seed in range(20)]
        for web in webs:
            one = [chance.randint(0, 1) for _ in range(web.many())]
            other = list(one)
            for _ in range(6):
                ring = a_ring(web, other, chance)
                other = flipped(other, ring or [])
            several += self.held(web, one, other) > 1
        self.assertGreater(several, 20)

    def test_one_point(self):
        self.assertEqual(rings_between(ONE, [], []), [])
        self.assertEqual(rings_between(ONE, (), []), [])

    def test_unlike(self):
        for web in [TWO_TIES, THREE, RING, FULL]:
            for one in all_pointings(web):
                for other in all_pointings(web)[::3]:
                    if own_ins(web, one) == own_ins(web, other):
                        self.held(web, one, other)
                    else:
                        refuses(self, Unlike, rings_between, web, one, other)
        # The same numbers, at other points.
        refuses(self, Unlike, rings_between, THREE, [0, 0, 1], [1, 0, 0])
        refuses(self, Unlike, rings_between, LARGE, [0] * 20, [1] + [0] * 19)

    def test_no_pointing_goes_first(self):
        for thing in no_pointings(THREE):
            refuses(self, NoPointing, rings_between, THREE, thing, [0, 0, 0])
            refuses(self, NoPointing, rings_between, THREE, [0, 0, 1], thing)
        for thing in [[0, 0], [0, 0, 2], None, "000", {}, [True, 0, 0], [False, 0, 0]]:
            refuses(self, NoPointing, rings_between, THREE, thing, thing)
        for thing in [[0], None, "", {}]:
            refuses(self, NoPointing, rings_between, ONE, thing, [])
            refuses(self, NoPointing, rings_between, ONE, [], thing)

    def test_what_is_handed_in_stays_and_may_be_changed(self):
        one, other = [0, 0, 0], [1, 1, 1]
        rings = rings_between(THREE, one, other)
        before = [list(ring) for ring in rings]
        self.assertEqual((one, other), ([0, 0, 0], [1, 1, 1]))
        one.clear()
        other[0] = 5
        self.assertEqual(rings, before)

    def test_what_is_told_is_its_asker_s_own(self):
        before = rings_between(EIGHT, [0] * 6, [1] * 6)
        rings = rings_between(EIGHT, [0] * 6, [1] * 6)
        rings[0].clear()
        rings.pop()
        self.assertEqual(rings_between(EIGHT, [0] * 6, [1] * 6), before)
        rings_between(EIGHT, [0] * 6, [0] * 6).append(7)
        self.assertEqual(rings_between(EIGHT, [0] * 6, [0] * 6), [])
        self.assertEqual(told(EIGHT), told(web_of("a b c d e; ab bc ca ad de ea")))


if __name__ == "__main__":
    unittest.main()
