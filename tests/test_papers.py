"""Papers, and the least farthest: promises 29 and 30, and 2, 3 and 4 where they bear on them."""

import copy
import itertools
import random
import unittest

from pointways.clusters import bars, clusters
from pointways.errors import Barred, Parted, TooMuch
from pointways.papers import least_farthest, reads_paper
from things import (FULL, HUNG, LARGE, NINE_RING, ONE, PARTED, RING, ROW, SHARED, TREE_AND_RING, TWO_TIES, Anything,
                    Like, all_pointings, all_reach_all, arcs_of, chance_webs, distances, nested, no_lists, no_names,
                    no_numbers, put, refuses, rings_web, sample_webs, told, web_of)

THREE = web_of("a b c; ab bc ca")
FIVE_FULL = web_of("a b c d e; ab ac ad ae bc bd be cd ce de")


def apart(web, fixed, a, b):
    """How many ties lead from a to b, fixed ones as they lead and free ones either way; 100 where none do."""
    arcs = [arc for number, tie in enumerate(web.ties()) for lead, arc in enumerate([tie, tie[::-1]])
            if fixed.get(number, lead) == lead]
    return distances(arcs, a).get(b, 100)


def own_paper(web, number, fixed, chance):
    """A paper for the number, fork by fork, the ties taken by chance; None where there is none."""
    pairs = [(a, b) for a, b in itertools.product(web.points(), repeat=2) if apart(web, fixed, a, b) >= number]
    free = [tie for tie in range(web.many()) if tie not in fixed]
    if pairs and (not free or chance.random() < 0.7):
        return ("far", *chance.choice(pairs))
    if not free:
        return None
    tie = chance.choice(free)
    papers = [own_paper(web, number, {**fixed, tie: lead}, chance) for lead in (0, 1)]
    return None if None in papers else ("fork", tie, *papers)


def as_lists(paper):
    """The paper with lists for tuples."""
    return [as_lists(thing) if isinstance(thing, tuple) else thing for thing in paper]


def places(paper):
    """All places of a paper within it, each as the row of the places that lead there."""
    rows = [()]
    if paper[0] == "fork":
        rows += [(at,) + row for at in (2, 3) for row in places(paper[at])]
    return rows


def paper_at(paper, place):
    """The paper in that place."""
    for at in place:
        paper = paper[at]
    return paper


def with_paper(paper, place, other):
    """The paper with another thing in that place."""
    if not place:
        return other
    return tuple(put(paper, place[0], with_paper(paper[place[0]], place[1:], other)))


def chain(ties, leaf):
    """A fork for each of the ties, one within another, the leaf everywhere else."""
    paper = leaf
    for tie in ties:
        paper = ("fork", tie, paper, leaf) if tie % 2 == 0 else ("fork", tie, leaf, paper)
    return paper


def least_of_all(web):
    """The least farthest, by going through all pointings."""
    good = [pointing for pointing in all_pointings(web) if all_reach_all(web, pointing)]
    return min(max(max(distances(arcs_of(web, pointing), point).values()) for point in web.points())
               for pointing in good)


def has_ears(web):
    return len(clusters(web)) == 1 and bars(web) == []


class Reads(unittest.TestCase):

    def yes(self, web, number, thing):
        self.assertIs(reads_paper(web, number, thing), True, (web.points(), web.ties(), number, thing))

    def no(self, web, number, thing):
        self.assertIs(reads_paper(web, number, thing), False, (web.points(), web.ties(), number, thing))

    def test_two_points(self):
        for web in sample_webs() + chance_webs(40, 60, 9, 12):
            for a, b in itertools.product(web.points(), repeat=2):
                many = apart(web, {}, a, b)
                for number in [1, 2, 3, 4, 8, 9, 98, 99]:
                    for paper in [("far", a, b), ["far", a, b]]:
                        self.assertIs(reads_paper(web, number, paper), many >= number)

    def test_one_point_told_twice(self):
        for web in [ONE, THREE, PARTED]:
            for number in [1, 2, 99]:
                self.no(web, number, ("far", "a", "a"))
                self.no(web, number, ["far", "a", "a"])

    def test_forks(self):
        for web in [TWO_TIES, THREE, RING, web_of("a b c; ab bc"), PARTED]:
            pairs = list(itertools.product(web.points(), repeat=2))
            for tie, number in itertools.product(range(web.many()), range(1, 5)):
                for one, other in itertools.product(pairs, repeat=2):
                    good = apart(web, {tie: 0}, *one) >= number and apart(web, {tie: 1}, *other) >= number
                    self.assertIs(reads_paper(web, number, ("fork", tie, ("far", *one), ("far", *other))), good)

    def test_ordinary(self):
        paper = ("fork", 0, ("far", "b", "a"), ("far", "a", "b"))
        self.yes(THREE, 2, paper)
        self.yes(THREE, 1, paper)
        self.no(THREE, 3, paper)
        self.no(THREE, 2, ("fork", 0, ("far", "a", "b"), ("far", "b", "a")))
        self.no(THREE, 2, ("far", "a", "b"))
        self.yes(THREE, 1, ("far", "a", "b"))
        self.yes(web_of("a b; ab"), 99, paper)

    def test_papers_made_fork_by_fork(self):
        chance, forks = random.Random(41), 0
        for web in [TWO_TIES, THREE, RING, SHARED, FULL, ROW, PARTED] + chance_webs(42, 150, 6, 8):
            for number in range(1, 6):
                paper = own_paper(web, number, {}, chance)
                if paper is not None:
                    forks += paper[0] == "fork"
                    self.yes(web, number, paper)
                    self.yes(web, number, as_lists(paper))
                    self.yes(web, number, list(paper))
                    self.yes(web, 1, paper)
        self.assertGreater(forks, 100)

    def test_where_one_is_read_no_pointing_has_a_farthest_of_less(self):
        chance = random.Random(43)
        for web in [TWO_TIES, THREE, RING, SHARED, FULL]:
            least = least_of_all(web)
            for number in range(1, 7):
                paper = own_paper(web, number, {}, chance)
                self.assertEqual(paper is not None, number <= least)

    def test_twenty_deep(self):
        for web, number, leaf in [(LARGE, 1, ("far", "a", "i")), (web_of("a b; " + "ab " * 20), 1, ("far", "b", "a")),
                                  (web_of("a b c; " + "ab " * 20), 99, ("far", "a", "c"))]:
            paper = chain(range(20), leaf)
            self.yes(web, number, paper)
            self.yes(web, number, as_lists(paper))
            self.yes(web, number, chain(reversed(range(20)), leaf))
            self.no(web, number, ("fork", 7, paper, leaf))
            self.no(web, number, chain([3] + list(range(20)), leaf))
            self.no(web, number, chain(range(20), ("far", "a", "a")))
            for place in places(paper)[::3]:
                self.no(web, number, with_paper(paper, place, ("far", "a", "a")))

    def test_a_row_as_long_as_it_may_be(self):
        # By the last tie alone the nine points are a ring, or two rows that meet.
        paper = ("fork", 8, ("far", "a", "i"), ("far", "i", "a"))
        ring = web_of("a b c d e f g h i; ab bc cd de ef fg gh hi ia")
        self.yes(ring, 8, paper)
        self.no(ring, 9, paper)

    def test_spoilt_in_a_place(self):
        chance = random.Random(44)
        for web, number in [(THREE, 2), (FULL, 2), (SHARED, 3), (RING, 2)]:
            paper = own_paper(web, number, {}, random.Random(45))
            while paper[0] != "fork":
                paper = own_paper(web, number, {}, chance)
            self.yes(web, number, paper)
            for place in places(paper):
                here = paper_at(paper, place)
                for bad in self.spoilt(web, here):
                    self.no(web, number, with_paper(paper, place, bad))
                    if isinstance(bad, tuple):
                        self.no(web, number, with_paper(paper, place, list(bad)))

    def spoilt(self, web, here):
        """Things that are no paper anywhere, near to the one that is here."""
        things = [None, True, 0, "far", "fork", "", (), [], {}, here[:-1], here + (here[-1],), here + (None,),
                  ("Far",) + here[1:], ("far ",) + here[1:], ("",) + here[1:], (None,) + here[1:], (0,) + here[1:],
                  (b"far",) + here[1:], (Like("far"),) + here[1:], (Like("fork"),) + here[1:],
                  (Anything(),) + here[1:], (here,), [here], here[1:], {"far": 1}, Anything(), (["far"],) + here[1:]]
        if here[0] == "far":
            bad = no_names() + ["zz"]
            return things + [put(here, at, thing) for at in (1, 2) for thing in bad] + [("fork",) + here[1:]]
        bad = no_numbers() + [-1, web.many(), web.many() + 1, 10 ** 17, -web.many()]
        return (things + [tuple(put(here, 1, thing)) for thing in bad]
                + [tuple(put(here, at, thing)) for at in (2, 3) for thing in [None, "far", (), ("far",), 0, True]]
                + [("far",) + here[1:], ("far",) + here[1:3], ("far",) + here[2:]])

    def test_a_tie_that_is_fixed_already(self):
        leaf = ("far", "a", "x")
        for first, second in itertools.product(range(4), repeat=2):
            for paper in [("fork", first, ("fork", second, leaf, leaf), leaf),
                          ("fork", first, leaf, ("fork", second, leaf, leaf))]:
                self.assertIs(reads_paper(PARTED, 5, paper), first != second)
        for numbers in itertools.product(range(4), repeat=3):
            self.assertIs(reads_paper(PARTED, 5, chain(numbers, leaf)), len(set(numbers)) == 3)
        # In the one and in the other of two papers a tie may be forked.
        self.yes(PARTED, 5, ("fork", 0, ("fork", 1, leaf, leaf), ("fork", 1, leaf, leaf)))

    def test_numbers(self):
        for paper in [("far", "a", "x"), ("fork", 0, ("far", "a", "x"), ("far", "x", "b"))]:
            for number in range(1, 100):
                self.yes(PARTED, number, paper)
            for number in [0, 100, 101, -1, -99, 10 ** 17, -10 ** 17] + no_numbers():
                self.no(PARTED, number, paper)

    def test_of_anything(self):
        for web in [ONE, THREE, PARTED, LARGE]:
            for thing in no_lists() + no_names() + no_numbers() + [nested(20), [[]], ((),), ("far",), ("fork",),
                                                                   ("fork", 0), ("far", "a"), ("a", "b", "c")]:
                self.no(web, 1, thing)
                self.no(web, thing if isinstance(thing, (str, bool)) else None, thing)

    def test_what_is_handed_in_stays(self):
        paper = as_lists(("fork", 0, ("far", "b", "a"), ("far", "a", "b")))
        before = copy.deepcopy(paper)
        self.yes(THREE, 2, paper)
        self.no(THREE, 3, paper)
        self.assertEqual(paper, before)
        self.assertEqual(told(THREE), told(web_of("a b c; ab bc ca")))


class Least(unittest.TestCase):

    def only_tuples(self, paper):
        """Whether the paper is made of tuples throughout."""
        if type(paper) is not tuple:
            return False
        return paper[0] == "far" or all(self.only_tuples(one) for one in paper[2:])

    def held(self, web):
        """The told number, pointing and paper fit one another; the number."""
        answer = least_farthest(web)
        self.assertIs(type(answer), tuple)
        number, pointing, paper = answer
        self.assertIs(type(number), int)
        self.assertIs(type(pointing), list)
        self.assertEqual(len(pointing), web.many())
        self.assertEqual([lead for lead in pointing if type(lead) is not int or lead not in (0, 1)], [])
        self.assertTrue(all_reach_all(web, pointing))
        arcs = arcs_of(web, pointing)
        self.assertEqual(max(max(distances(arcs, point).values()) for point in web.points()), number)
        self.assertTrue(self.only_tuples(paper))
        for other in range(1, number + 1):
            self.assertIs(reads_paper(web, other, paper), True)
        for other in [number + 1, number + 2, 9, 99]:
            self.assertIs(reads_paper(web, other, paper), False)
        return number

    def test_against_all_pointings(self):
        webs = [web for web in chance_webs(46, 400, 6, 8) if has_ears(web) and len(web.points()) > 1]
        self.assertGreater(len(webs), 50)
        seen = {self.held(web) for web in webs}
        self.assertLessEqual({1, 2, 3}, seen)
        for web in webs[:60] + [TWO_TIES, THREE, RING, SHARED, FULL]:
            self.assertEqual(self.held(web), least_of_all(web))

    def test_ordinary(self):
        self.assertEqual(self.held(TWO_TIES), 1)
        self.assertEqual(self.held(THREE), 2)
        self.assertEqual(self.held(RING), 3)
        self.assertEqual(self.held(SHARED), 4)
        self.assertEqual(self.held(FULL), 3)
        self.assertEqual(self.held(NINE_RING), 8)

    def test_ten_ties(self):
        self.assertEqual(self.held(FIVE_FULL), 2)
        self.assertEqual(self.held(web_of("a b; " + "ab " * 10)), 1)
        for web in [rings_web(seed, points, 1, 10 - points) for seed in range(4) for points in range(3, 10)]:
            self.assertEqual(web.many(), 10)
            self.held(web)
        web = rings_web(5, 6, 1, 4)
        self.assertEqual(self.held(web), least_of_all(web))

    def test_one_point(self):
        self.assertEqual(least_farthest(ONE), (0, [], None))

    def test_too_much_goes_first(self):
        for web in [web_of("a b; " + "ab " * 11), LARGE, web_of("a b c; " + "ab " * 11),
                    web_of("a b c; bc " + "ab " * 10), web_of("a b c d; cd " + "ab ba " * 5),
                    web_of("a b; " + "ab ba " * 10)]:
            refuses(self, TooMuch, least_farthest, web)

    def test_parted(self):
        for web in [PARTED, web_of("a b"), web_of("a b c; ab"), web_of("b x a y; ab xy yx"),
                    web_of("a b c; " + "ab " * 10)]:
            with self.assertRaises(Parted) as caught:
                least_farthest(web)
            self.assertEqual(caught.exception.lot, clusters(web)[0])
            caught.exception.lot.clear()
            with self.assertRaises(Parted) as caught:
                least_farthest(web)
            self.assertEqual(caught.exception.lot, clusters(web)[0])

    def test_barred(self):
        for web in [web_of("a b; ab"), ROW, HUNG, TREE_AND_RING, web_of("a b c; cb " + "ab " * 9)]:
            with self.assertRaises(Barred) as caught:
                least_farthest(web)
            self.assertIn((caught.exception.tie, caught.exception.lot), bars(web))

    def test_what_is_told_is_its_asker_s_own(self):
        before = least_farthest(FULL)
        least_farthest(FULL)[1].clear()
        self.assertEqual(least_farthest(FULL), before)
        least_farthest(ONE)[1].append(1)
        self.assertEqual(least_farthest(ONE), (0, [], None))
        self.assertEqual(told(FULL), told(web_of("a b c d; ab ac ad bc bd cd")))


if __name__ == "__main__":
    unittest.main()
