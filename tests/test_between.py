"""Steps from one pointing to another, both k times over: promise 26, and 2, 3 and 4 where they bear on it."""

import random
import unittest

from pointways.between import steps_between
from pointways.errors import NoNumber, NoPointing, NotOver
from pointways.webs import Web
from things import (FULL, LARGE, NINE_RING, ONE, PARTED, RING, ROW, TWO_TIES, all_pointings, ends_of_way, flipped,
                    is_ring, is_times_over, no_pointings, no_times, own_ins, refuses, told, web_of)

THREE = web_of("a b c; ab bc ca")
THREE_TWICE = web_of("a b c; ab bc ca ab cb ca")
SIX_TIES = web_of("a b; ab ab ba ba ab ba")


def ringed(seed, points, rings, more):
    """A web of rings through all of its points and more ties, and two pointings by which each ring leads round."""
    chance = random.Random(seed)
    names, ties = list("abcdefghi"[:points]), []
    for at in range(rings):
        order = chance.sample(names, points)
        ties += [(at, pair) for pair in zip(order, order[1:] + order[:1])]
    ties += [(None, tuple(chance.sample(names, 2))) for _ in range(more)]
    chance.shuffle(ties)
    pointings = []
    for _ in range(2):
        round_about = [chance.randint(0, 1) for _ in range(rings)]
        pointings.append([chance.randint(0, 1) if at is None else round_about[at] for at, _ in ties])
    return Web(names, [pair for _, pair in ties]), *pointings


class Steps(unittest.TestCase):

    def held(self, web, one, other, k):
        """The told steps lead from the one to the other, k times over all along; how many ways and rings they are."""
        steps = steps_between(web, one, other, k)
        self.assertIs(type(steps), list)
        here, kinds, gone = list(one), [], []
        for step in steps:
            self.assertIs(type(step), tuple)
            kind, numbers = step
            self.assertIs(type(numbers), list)
            self.assertEqual([number for number in numbers if type(number) is not int], [])
            if kind == "way":
                self.assertNotEqual(numbers, [])
                self.assertIsNotNone(ends_of_way(web, here, numbers))
            else:
                self.assertTrue(is_ring(web, here, numbers))
                gone += numbers
            here = flipped(here, numbers)
            self.assertTrue(is_times_over(web, here, k))
            kinds.append(kind)
        self.assertEqual(here, list(other))
        ways = sum(max(0, more - less) for less, more in zip(own_ins(web, one), own_ins(web, other)))
        self.assertEqual(kinds, ["way"] * ways + ["ring"] * (len(kinds) - ways))
        self.assertEqual(len(gone), len(set(gone)))
        return ways, len(kinds) - ways

    def test_to_itself(self):
        for web in [TWO_TIES, THREE, FULL, SIX_TIES]:
            for pointing in all_pointings(web):
                if is_times_over(web, pointing, 1):
                    self.assertEqual(steps_between(web, pointing, pointing, 1), [])
                    self.assertEqual(steps_between(web, pointing, tuple(pointing), 1), [])

    def test_one_point(self):
        for k in range(1, 10):
            self.assertEqual(steps_between(ONE, [], [], k), [])
            self.assertEqual(steps_between(ONE, (), [], k), [])

    def test_ordinary(self):
        self.assertEqual(self.held(THREE, [0, 0, 0], [1, 1, 1], 1), (0, 1))
        self.assertEqual(steps_between(web_of("a b; ab ba ba"), [0, 0, 0], [0, 0, 0], 1), [])
        self.assertEqual(steps_between(web_of("a b; ab ab ba"), [1, 0, 0], [0, 0, 0], 1), [("way", [0])])
        self.assertEqual(self.held(SIX_TIES, [0] * 6, [1] * 6, 3), (0, 3))
        self.assertEqual(self.held(SIX_TIES, [0, 0, 1, 0, 0, 1], [1, 1, 0, 1, 1, 0], 1)[0], 4)
        self.assertEqual(self.held(NINE_RING, [0, 0, 1, 0, 0, 1, 0, 1, 0], [1, 1, 0, 1, 1, 0, 1, 0, 1], 1), (0, 1))

    def test_any_two_pointings_of_small_webs(self):
        for web, times in [(TWO_TIES, [1]), (web_of("a b; ab ba ab ba"), [1, 2]), (THREE_TWICE, [1, 2]), (FULL, [1]),
                           (RING, [1]), (web_of("a b c d; ab bc cd da ac bd ab"), [1]), (SIX_TIES, [1, 2, 3])]:
            for k in times:
                good = [pointing for pointing in all_pointings(web) if is_times_over(web, pointing, k)]
                self.assertNotEqual(good, [])
                for one in good:
                    for other in good[::2 if len(good) > 20 else 1]:
                        self.held(web, one, other, k)

    def test_rings_through_all_points_and_more_ties(self):
        several = 0
        for seed in range(12):
            for points, rings, more in [(9, 1, 11), (9, 2, 2), (8, 2, 4), (7, 2, 6), (6, 3, 2), (6, 2, 8), (5, 3, 5),
                                        (4, 3, 8), (3, 3, 11), (2, 3, 14), (8, 1, 12), (5, 1, 15)]:
                web, one, other = ringed(seed, points, rings, more)
                for k in range(1, rings + 1):
                    ways, turned_rings = self.held(web, one, tuple(other), k)
                    several += ways > 1 and turned_rings > 1
        self.assertGreater(several, 20)

    def test_ways_of_which_some_would_not_do(self):
        # From a point that lacks ties to one that has some to spare, a way may leave a lot with fewer than k.
        for text in ["a b c d; bc ac da db da da db bc ca cb", "a b c d; cd da ac db ab ab dc cd ab bc dc",
                     "a b c d; bd ca cb dc ac cd db ac ca ab ba bd"]:
            web, good = web_of(text), {}
            for pointing in all_pointings(web):
                ins = tuple(own_ins(web, pointing))
                if ins not in good and is_times_over(web, pointing, 2):
                    good[ins] = pointing
            for one in good.values():
                for other in good.values():
                    self.held(web, one, other, 2)

    def test_nine_times_over(self):
        web = web_of("a b; " + "ab " * 20)
        self.assertEqual(self.held(web, [0] * 9 + [1] * 11, [1] * 9 + [0] * 11, 9), (2, 9))
        self.assertEqual(self.held(web, [0] * 11 + [1] * 9, [1] * 11 + [0] * 9, 9), (2, 9))

    def test_not_over(self):
        for web, times in [(THREE, [1, 2, 9]), (THREE_TWICE, [1, 2, 3]), (SIX_TIES, [1, 2, 3, 4]), (PARTED, [1]),
                           (ROW, [1]), (web_of("a b; ab"), [1])]:
            for k in times:
                for one in all_pointings(web)[::3]:
                    for other in all_pointings(web)[::5]:
                        if is_times_over(web, one, k) and is_times_over(web, other, k):
                            self.held(web, one, other, k)
                        else:
                            refuses(self, NotOver, steps_between, web, one, other, k)
        refuses(self, NotOver, steps_between, THREE, [0, 0, 1], [0, 0, 0], 1)
        refuses(self, NotOver, steps_between, THREE, [0, 0, 0], [0, 0, 1], 1)
        refuses(self, NotOver, steps_between, THREE, [0, 0, 1], [0, 0, 1], 1)
        refuses(self, NotOver, steps_between, THREE, [0, 0, 0], [0, 0, 0], 2)
        refuses(self, NotOver, steps_between, web_of("a b"), [], [], 1)
        refuses(self, NotOver, steps_between, LARGE, [0] * 20, [0] * 20, 9)

    def test_no_number_goes_ahead_of_not_over(self):
        for thing in no_times() + [0]:
            refuses(self, NoNumber, steps_between, THREE, [0, 0, 0], [1, 1, 1], thing)
            refuses(self, NoNumber, steps_between, THREE, [0, 0, 1], [0, 0, 0], thing)
            refuses(self, NoNumber, steps_between, THREE, [0, 0, 0], [0, 0, 1], thing)
            refuses(self, NoNumber, steps_between, ONE, [], [], thing)

    def test_no_pointing_goes_first(self):
        for thing in no_pointings(THREE):
            refuses(self, NoPointing, steps_between, THREE, thing, [0, 0, 0], 1)
            refuses(self, NoPointing, steps_between, THREE, [0, 0, 0], thing, 1)
        for thing in [[0, 0], [0, 0, 2], None, "000", {}, [True, 0, 0]]:
            for k in [0, 10, True, "1", None, 5]:
                refuses(self, NoPointing, steps_between, THREE, thing, [0, 0, 0], k)
                refuses(self, NoPointing, steps_between, THREE, [0, 0, 1], thing, k)
                refuses(self, NoPointing, steps_between, THREE, thing, thing, k)

    def test_what_is_handed_in_stays_and_may_be_changed(self):
        web, one, other = ringed(3, 5, 2, 6)
        before = list(one), list(other)
        steps = steps_between(web, one, other, 2)
        self.assertEqual((one, other), before)
        was = [(kind, list(numbers)) for kind, numbers in steps]
        one.clear()
        other[0] = 5
        self.assertEqual(steps, was)

    def test_what_is_told_is_its_asker_s_own(self):
        web, one, other = ringed(4, 5, 2, 6)
        was, before = told(web), steps_between(web, one, other, 1)
        self.assertGreater(len({kind for kind, _ in before}), 1)
        steps = steps_between(web, one, other, 1)
        for _, numbers in steps:
            numbers.clear()
        steps.clear()
        self.assertEqual(steps_between(web, one, other, 1), before)
        steps_between(web, one, one, 1).append(7)
        self.assertEqual(steps_between(web, one, one, 1), [])
        self.assertEqual(told(web), was)


if __name__ == "__main__":
    unittest.main()
