"""How many pointings there are by which all reach all, and all of them: promise 27, and 2, 3 and 4 there."""

import functools
import unittest

from pointways.counts import all_pointed, how_many
from pointways.errors import TooMuch
from things import (FULL, HUNG, LARGE, NINE_RING, ONE, PARTED, RING, ROW, SHARED, TREE_AND_RING, TWO_TIES,
                    all_pointings, all_reach_all, chance_webs, refuses, rings_web, told, web_of)

THREE = web_of("a b c; ab bc ca")
FIVE_FULL = web_of("a b c d e; ab ac ad ae bc bd be cd ce de")
SIX_FULL = web_of("a b c d e f; ab ac ad ae af bc bd be bf cd ce cf de df ef")
NONE = [web_of("a b"), web_of("a b; ab"), web_of("a b c; ab ba"), PARTED, ROW, HUNG, TREE_AND_RING,
        web_of("a b c; " + "ab " * 12), web_of("a b c; bc " + "ab " * 11)]


@functools.lru_cache(None)
def own_count(points, ties):
    """How many pointings there are, tie by tie: without a tie, and with its ends made one."""
    if not ties:
        return 1 if len(points) == 1 else 0
    (first, second), rest = ties[0], ties[1:]
    if first == second:
        return 2 * own_count(points, rest)
    made_one = tuple(sorted(tuple(sorted(first if end == second else end for end in tie)) for tie in rest))
    reached = {first}
    for _ in points:
        reached |= {end for tie in rest if reached & set(tie) for end in tie}
    if second not in reached:
        return 0
    return own_count(points, rest) + own_count(tuple(point for point in points if point != second), made_one)


def counted(web):
    """The test's own count."""
    return own_count(tuple(web.points()), tuple(sorted(tuple(sorted(tie)) for tie in web.ties())))


class Counts(unittest.TestCase):

    def held(self, web):
        """The count and the list, held against all pointings; the count."""
        good = [pointing for pointing in all_pointings(web) if all_reach_all(web, pointing)]
        rows = all_pointed(web)
        self.assertIs(type(rows), list)
        for row in rows:
            self.assertIs(type(row), list)
            self.assertEqual([lead for lead in row if type(lead) is not int], [])
        self.assertEqual(rows, sorted(good))
        many = how_many(web)
        self.assertIs(type(many), int)
        self.assertEqual(many, len(good))
        self.assertEqual(many, counted(web))
        return many

    def test_against_all_pointings(self):
        for web in [ONE, TWO_TIES, THREE, RING, SHARED, FULL, NINE_RING] + NONE[:7]:
            self.held(web)
        some = [self.held(web) for web in chance_webs(36, 250, 6, 9)]
        self.assertGreater(len([many for many in some if many > 2]), 20)

    def test_ordinary(self):
        self.assertEqual(all_pointed(THREE), [[0, 0, 0], [1, 1, 1]])
        self.assertEqual(how_many(THREE), 2)
        self.assertEqual(all_pointed(web_of("a b; ab ba ba")),
                         [[0, 0, 0], [0, 0, 1], [0, 1, 0], [1, 0, 1], [1, 1, 0], [1, 1, 1]])
        self.assertEqual(self.held(SHARED), 4)
        self.assertEqual([how_many(web) for web in [FULL, FIVE_FULL, SIX_FULL]], [24, 544, 22320])

    def test_one_point(self):
        self.assertEqual(how_many(ONE), 1)
        self.assertEqual(all_pointed(ONE), [[]])

    def test_none(self):
        for web in NONE:
            self.assertEqual(how_many(web), 0)
            self.assertEqual(all_pointed(web), [])
        # Clusters by each of which all reach all, two of them and three, are no web by which they do.
        for web in [web_of("a b c d e f; ab bc ca de ef fd"), web_of("a b c d e f; ab ba cd dc ef fe"),
                    web_of("a b c"), web_of("a b c d")]:
            self.assertEqual(how_many(web), 0)
            self.assertEqual(all_pointed(web), [])

    def test_twelve_ties(self):
        self.assertEqual(self.held(web_of("a b c d; ab bc cd da ac bd ab bc cd da ac bd")), how_many(
            web_of("d b a c; ca ca ad ad bd bd bc cb ab ab dc dc")))
        self.assertEqual(len(all_pointed(web_of("a b; " + "ab ba " * 6))), 4094)
        for web in [rings_web(1, 9, 1, 3), rings_web(2, 8, 1, 4)]:
            self.assertEqual(len(all_pointed(web)), how_many(web))
            self.assertEqual(how_many(web), counted(web))

    def test_up_to_twenty_ties(self):
        for many in range(2, 21):
            self.assertEqual(how_many(web_of("a b; " + "ab " * many)), 2 ** many - 2)
        for web in [LARGE] + [rings_web(seed, points, 1, 20 - points) for seed in range(3) for points in range(2, 10)]:
            self.assertEqual(web.many(), 20)
            self.assertEqual(how_many(web), counted(web))
        self.assertGreater(how_many(LARGE), 10000)
        self.assertEqual(how_many(web_of("a b c; " + "ab " * 20)), 0)
        self.assertEqual(how_many(web_of("a b c; bc " + "ab " * 19)), 0)

    def test_webs_by_chance(self):
        for web in chance_webs(37, 150, 9, 20):
            self.assertEqual(how_many(web), counted(web))

    def test_too_much_of_the_list_alone(self):
        for web in [web_of("a b; " + "ab " * 13), LARGE, SIX_FULL, web_of("a b c; " + "ab " * 13),
                    web_of("a b c; bc " + "ab " * 12), web_of("a b c d; cd " + "ab ba " * 6)]:
            refuses(self, TooMuch, all_pointed, web)
            self.assertEqual(how_many(web), counted(web))

    def test_what_is_told_is_its_asker_s_own(self):
        rows = all_pointed(THREE)
        rows[0].clear()
        rows[1][0] = 9
        rows.append(1)
        self.assertEqual(all_pointed(THREE), [[0, 0, 0], [1, 1, 1]])
        all_pointed(ONE)[0].append(1)
        self.assertEqual(all_pointed(ONE), [[]])
        self.assertEqual(told(THREE), told(web_of("a b c; ab bc ca")))


if __name__ == "__main__":
    unittest.main()
