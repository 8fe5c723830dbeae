"""Ties fixed beforehand, and ties forced by them: promises 16 and 17, and 2, 3 and 4 where they bear on them."""

import itertools
import random
import unittest

from pointways.beforehand import forced, pointed_with
from pointways.errors import Barred, NoFixed, Shut
from pointways.pointed import pointed
from pointways.webs import Web
from things import (FULL, HUNG, LARGE, NINE_RING, ONE, PARTED, RING, ROW, SHARED, TREE_AND_RING, TWO_TIES,
                    all_pointings, all_reach_all, chance_webs, crossed_by, no_fixed, refuses, some_lots, told, web_of)

THREE = web_of("a b c; ab bc ca")
DEEDS = [pointed_with, forced]


def all_fixed(web):
    """All dicts that fix some ties of a web."""
    for leads in itertools.product([None, 0, 1], repeat=web.many()):
        yield {number: lead for number, lead in enumerate(leads) if lead is not None}


def chance_fixed(web, seed, many):
    """So many dicts that fix some ties, the same at each call, their keys in any order."""
    chance = random.Random(seed)
    for _ in range(many):
        numbers = chance.sample(range(web.many()), chance.randint(0, web.many()))
        yield {number: chance.randint(0, 1) for number in numbers}


def cases():
    """Small webs with what is fixed in them."""
    webs = [ONE, web_of("a b"), web_of("a b; ab"), TWO_TIES, THREE, RING, ROW, PARTED, TREE_AND_RING, SHARED, FULL,
            web_of("a b c; ab ba bc cb"), web_of("b a c; ab ba ab bc")] + chance_webs(12, 90, 5, 7)
    for at, web in enumerate(webs):
        few = list(all_fixed(web)) if web.many() <= 4 else chance_fixed(web, at, 60)
        for fixed in few:
            yield web, fixed


class Rules(unittest.TestCase):
    """What the test's own search says, and what a refusal has to show."""

    good_of = {}

    def keeping(self, web, fixed):
        """All pointings that keep what is fixed and by which all reach all."""
        key = repr(told(web))
        if key not in self.good_of:
            self.good_of[key] = [pointing for pointing in all_pointings(web) if all_reach_all(web, pointing)]
        return [pointing for pointing in self.good_of[key]
                if all(pointing[number] == lead for number, lead in fixed.items())]

    def leads_out(self, web, lot, number, lead):
        first, second = web.ties()[number]
        origin, goal = (first, second) if lead == 0 else (second, first)
        return origin in lot and goal not in lot

    def is_shut(self, web, fixed, lot):
        return all(number in fixed and self.leads_out(web, lot, number, fixed[number])
                   for number in crossed_by(web, lot))

    def shows_it(self, web, fixed, refusal):
        """The refusal's values show that there is no such pointing."""
        self.assertIs(type(refusal.lot), list)
        self.assertIn(refusal.lot, some_lots(web))
        if type(refusal) is Shut:
            self.assertTrue(self.is_shut(web, fixed, refusal.lot), (told(web), fixed, refusal.lot))
        else:
            self.assertIs(type(refusal), Barred)
            self.assertFalse(any(self.is_shut(web, fixed, lot) for lot in some_lots(web)))
            self.assertIs(type(refusal.tie), int)
            self.assertNotIn(refusal.tie, fixed)
            self.assertEqual(crossed_by(web, refusal.lot), [refusal.tie])

    def refusal(self, deed, web, fixed):
        try:
            deed(web, fixed)
        except (Shut, Barred) as caught:
            return caught
        self.fail("not refused")


class PointedWith(Rules):

    def good(self, web, fixed):
        pointing = pointed_with(web, fixed)
        self.assertIs(type(pointing), list)
        self.assertEqual(len(pointing), web.many())
        self.assertEqual([lead for lead in pointing if type(lead) is not int or lead not in (0, 1)], [])
        for number, lead in fixed.items():
            self.assertEqual(pointing[number], lead)
        self.assertTrue(all_reach_all(web, pointing))

    def test_told_just_where_there_is_one(self):
        seen = {"told": 0, Shut: 0, Barred: 0}
        for web, fixed in cases():
            if self.keeping(web, fixed):
                self.good(web, fixed)
                seen["told"] += 1
            else:
                refusal = self.refusal(pointed_with, web, fixed)
                self.shows_it(web, fixed, refusal)
                seen[type(refusal)] += 1
        self.assertGreater(min(seen.values()), 30, seen)

    def test_nothing_fixed(self):
        for web in [ONE, TWO_TIES, RING, SHARED, FULL, NINE_RING, LARGE]:
            self.good(web, {})

    def test_some_fixed_in_larger_webs(self):
        for web in [NINE_RING, LARGE]:
            good = pointed(web)
            for fixed in chance_fixed(web, 3, 40):
                self.good(web, {number: good[number] for number in fixed})

    def test_all_fixed(self):
        for web in [TWO_TIES, RING, FULL, LARGE]:
            good = pointed(web)
            self.assertEqual(pointed_with(web, dict(enumerate(good))), good)
        self.assertEqual(pointed_with(ONE, {}), [])

    def test_a_dict_in_any_order(self):
        for order in itertools.permutations([(0, 1), (2, 1), (3, 0)]):
            self.good(FULL, dict(order))
            self.assertEqual(pointed_with(FULL, dict(order)), pointed_with(FULL, {0: 1, 2: 1, 3: 0}))

    def test_ordinary(self):
        self.assertEqual(pointed_with(THREE, {1: 0}), [0, 0, 0])
        self.assertEqual(pointed_with(THREE, {1: 1}), [1, 1, 1])
        self.assertEqual(pointed_with(TWO_TIES, {1: 1}), [1, 1])

    def test_shut_by_fixed_ties(self):
        refusal = self.refusal(pointed_with, THREE, {0: 0, 2: 1})
        self.assertEqual((type(refusal), refusal.lot), (Shut, ["a"]))
        refusal = self.refusal(pointed_with, TWO_TIES, {0: 0, 1: 1})
        self.assertEqual((type(refusal), refusal.lot), (Shut, ["a"]))

    def test_shut_where_no_tie_crosses(self):
        for web in [PARTED, web_of("a b"), web_of("b a c")]:
            for fixed in [{}] + list(all_fixed(web)):
                refusal = self.refusal(pointed_with, web, fixed)
                self.assertIs(type(refusal), Shut)
                self.shows_it(web, fixed, refusal)
        self.assertIn(self.refusal(pointed_with, PARTED, {}).lot, [["a", "b"], ["x", "y"]])

    def test_barred(self):
        for web in [web_of("a b; ab"), ROW, HUNG, TREE_AND_RING]:
            refusal = self.refusal(pointed_with, web, {})
            self.assertIs(type(refusal), Barred)
            self.shows_it(web, {}, refusal)
        refusal = self.refusal(pointed_with, HUNG, {0: 0, 1: 0, 3: 1})
        self.assertIs(type(refusal), Barred)
        self.assertEqual(refusal.tie, 6)
        self.assertIn(refusal.lot, [["x", "y", "z"], ["a", "b", "c"]])

    def test_shut_goes_ahead_of_barred(self):
        for web, fixed in [(HUNG, {0: 0, 2: 0}), (web_of("a b c d; ab ba cd"), {}), (web_of("a b c; ab ba bc"), {2: 0}),
                           (ROW, {1: 1}), (TREE_AND_RING, {0: 0, 1: 1, 2: 0}), (web_of("a b c; ab bc"), {0: 1})]:
            refusal = self.refusal(pointed_with, web, fixed)
            self.assertIs(type(refusal), Shut)
            self.shows_it(web, fixed, refusal)

    def test_a_fixed_tie_that_bars_shuts_a_lot(self):
        for lead, lot in [(0, ["a"]), (1, ["b"])]:
            refusal = self.refusal(pointed_with, web_of("a b; ab"), {0: lead})
            self.assertEqual((type(refusal), refusal.lot), (Shut, lot))

    def test_what_is_handed_in_stays_and_may_be_changed(self):
        fixed = {2: 1, 0: 1}
        pointing, ways = pointed_with(FULL, fixed), forced(FULL, fixed)
        before = list(pointing), dict(ways)
        self.assertEqual(list(fixed.items()), [(2, 1), (0, 1)])
        fixed[1] = 0
        fixed.clear()
        self.assertEqual((pointing, ways), before)
        self.assertEqual(pointed_with(FULL, {2: 1, 0: 1}), before[0])

    def test_what_is_told_is_its_asker_s_own(self):
        fixed, before = {0: 1}, pointed_with(RING, {0: 1})
        pointed_with(RING, fixed).clear()
        self.assertEqual(pointed_with(RING, fixed), before)
        for web, fixed in [(PARTED, {}), (HUNG, {})]:
            for deed in DEEDS:
                refusal = self.refusal(deed, web, fixed)
                before = list(refusal.lot)
                refusal.lot.append("z")
                self.assertEqual(self.refusal(deed, web, fixed).lot, before)
        self.assertEqual(told(PARTED), told(web_of("a x b y; ab xy ba yx")))


class Forced(Rules):

    def ways_of(self, web, fixed, ways):
        """The told dict's ways, its kinds and lots looked at."""
        self.assertIs(type(ways), dict)
        for number, value in ways.items():
            self.assertIs(type(number), int)
            self.assertIs(type(value), tuple)
            lead, lot = value
            self.assertIs(type(lead), int)
            self.assertIs(type(lot), list)
            self.assertIn(lot, some_lots(web))
            crossed = crossed_by(web, lot)
            self.assertIn(number, crossed)
            self.assertTrue(self.leads_out(web, lot, number, 1 - lead))
            for other in crossed:
                if other != number:
                    self.assertIn(other, fixed)
                    self.assertTrue(self.leads_out(web, lot, other, fixed[other]))
        return {number: lead for number, (lead, lot) in ways.items()}

    def test_against_all_pointings(self):
        many = 0
        for web, fixed in cases():
            keeping = self.keeping(web, fixed)
            if not keeping:
                self.shows_it(web, fixed, self.refusal(forced, web, fixed))
                continue
            wanted = {number: keeping[0][number] for number in range(web.many())
                      if number not in fixed and len({pointing[number] for pointing in keeping}) == 1}
            self.assertEqual(self.ways_of(web, fixed, forced(web, fixed)), wanted)
            many += len(wanted) > 0
        self.assertGreater(many, 100)

    def test_refused_as_pointed_with_is(self):
        for web, fixed in cases():
            if not self.keeping(web, fixed):
                one, other = self.refusal(pointed_with, web, fixed), self.refusal(forced, web, fixed)
                self.assertIs(type(one), type(other))
                self.assertEqual(vars(one), vars(other))

    def test_ordinary(self):
        self.assertEqual(forced(THREE, {}), {})
        self.assertEqual(self.ways_of(THREE, {1: 1}, forced(THREE, {1: 1})), {0: 1, 2: 1})
        self.assertEqual(forced(TWO_TIES, {0: 0}), {1: (0, ["a"])})
        self.assertEqual(forced(TWO_TIES, {1: 0}), {0: (0, ["b"])})
        self.assertEqual(forced(ONE, {}), {})

    def test_all_fixed(self):
        for web in [ONE, TWO_TIES, RING, FULL, LARGE]:
            self.assertEqual(forced(web, dict(enumerate(pointed(web)))), {})

    def test_fixed_as_forced_nothing_new_is_forced(self):
        for web, fixed in cases():
            if self.keeping(web, fixed):
                ways = self.ways_of(web, fixed, forced(web, fixed))
                self.assertEqual(forced(web, {**fixed, **ways}), {})

    def test_a_forced_tie_fixed_the_other_way_is_shut(self):
        for web, fixed in cases():
            if self.keeping(web, fixed):
                for number, (lead, _) in forced(web, fixed).items():
                    for deed in DEEDS:
                        refusal = self.refusal(deed, web, {**fixed, number: 1 - lead})
                        self.assertIs(type(refusal), Shut)

    def test_a_ring_of_nine_points(self):
        good = pointed(NINE_RING)
        ways = self.ways_of(NINE_RING, {4: 1 - good[4]}, forced(NINE_RING, {4: 1 - good[4]}))
        self.assertEqual(ways, {number: 1 - good[number] for number in range(9) if number != 4})

    def test_what_is_told_is_its_asker_s_own(self):
        fixed = {1: 1}
        before = {number: (lead, list(lot)) for number, (lead, lot) in forced(THREE, fixed).items()}
        again = forced(THREE, fixed)
        for _, lot in again.values():
            lot.append("z")
        self.assertEqual(forced(THREE, fixed), before)
        again.clear()
        self.assertEqual(forced(THREE, fixed), before)
        self.assertEqual(fixed, {1: 1})
        first, second = forced(THREE, fixed).values()
        self.assertIsNot(first[1], second[1])


class NotFixed(unittest.TestCase):

    def test_of_anything(self):
        for web in [THREE, TWO_TIES, FULL]:
            for thing in no_fixed(web):
                for deed in DEEDS:
                    refuses(self, NoFixed, deed, web, thing)

    def test_ahead_of_the_others(self):
        for web in [PARTED, ROW, HUNG, web_of("a b c d; ab ba cd")]:
            for thing in no_fixed(web):
                for deed in DEEDS:
                    refuses(self, NoFixed, deed, web, thing)
        for deed in DEEDS:
            refuses(self, NoFixed, deed, TWO_TIES, {0: 0, 1: 1, 2: 0})
            refuses(self, NoFixed, deed, TWO_TIES, {0: 0, 1: 1, "a": 0})

    def test_without_ties(self):
        for web in [ONE, Web(["a", "b"], [])]:
            for thing in [{0: 0}, {-1: 0}, {"a": 0}, {None: 1}, [], (), None, "", 0]:
                for deed in DEEDS:
                    refuses(self, NoFixed, deed, web, thing)


if __name__ == "__main__":
    unittest.main()
