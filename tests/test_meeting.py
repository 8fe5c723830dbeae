"""Ins met, and the ins of all pointings by which all reach all: promises 20 and 21, and 2, 3 and 4 there."""

import itertools
import random
import unittest

from pointways.errors import NoIns, NoNumbers, TooMuch
from pointways.meeting import all_ins, pointing_of
from things import (FULL, HUNG, LARGE, NINE_RING, ONE, PARTED, RING, ROW, SHARED, TREE_AND_RING, TWO_TIES,
                    all_pointings, all_reach_all, chance_webs, no_ins, own_ins, refusal_of, refuses, sample_webs,
                    some_lots, told, web_of)

THREE = web_of("a b c; ab bc ca")
SMALL = [ONE, web_of("a b"), web_of("b a; ab"), TWO_TIES, THREE, web_of("c a b; ab"), web_of("a b c; ab ba cb"),
         web_of("a b c; bc cb bc"), ROW, RING, PARTED, FULL, web_of("a b c; ab ab ab bc")]


class Meeting(unittest.TestCase):

    def met(self, web, ins):
        """A pointing with just these ins is told."""
        pointing = pointing_of(web, ins)
        self.assertIs(type(pointing), list)
        self.assertEqual(len(pointing), web.many())
        self.assertEqual([lead for lead in pointing if type(lead) is not int or lead not in (0, 1)], [])
        self.assertEqual(own_ins(web, pointing), list(ins))

    def shown(self, web, ins):
        """These ins are refused, and the told points show why; the word and the points."""
        with self.assertRaises(NoIns) as caught:
            pointing_of(web, ins)
        word, part = caught.exception.word, caught.exception.part
        self.assertIs(type(word), str)
        self.assertIs(type(part), list)
        self.assertIn(part, some_lots(web) + [web.points()])
        wanted = sum(many for point, many in zip(web.points(), ins) if point in part)
        inside = [sum(end in part for end in tie) for tie in web.ties()]
        if word == "within":
            self.assertGreater(inside.count(2), wanted)
        else:
            self.assertEqual(word, "touching")
            self.assertLess(inside.count(1) + inside.count(2), wanted)
        return word, part

    def test_ins_of_drawn_pointings(self):
        chance = random.Random(21)
        for web in sample_webs() + chance_webs(22, 300, 9, 20):
            ins = own_ins(web, [chance.randint(0, 1) for _ in range(web.many())])
            self.met(web, ins)
            self.met(web, tuple(ins))

    def test_nine_points_and_twenty_ties(self):
        chance = random.Random(23)
        for _ in range(60):
            self.met(LARGE, own_ins(LARGE, [chance.randint(0, 1) for _ in range(20)]))
        self.met(LARGE, own_ins(LARGE, [0] * 20))
        self.met(LARGE, own_ins(LARGE, [1] * 20))
        self.met(web_of("a b; " + "ab ba " * 10), [13, 7])

    def test_one_point_and_no_ties(self):
        self.assertEqual(pointing_of(ONE, [0]), [])
        self.assertEqual(pointing_of(ONE, (0,)), [])
        self.assertEqual(pointing_of(web_of("a b c"), [0, 0, 0]), [])

    def test_ordinary(self):
        self.assertEqual(pointing_of(THREE, [0, 1, 2]), [0, 0, 1])
        self.assertEqual(pointing_of(web_of("c b a; ab bc ca"), [2, 1, 0]), [0, 0, 1])
        self.assertEqual(pointing_of(TWO_TIES, [2, 0]), [1, 0])
        self.assertEqual(pointing_of(ROW, [1, 1, 1, 0]), [1, 0, 1])

    def test_refused_just_where_it_is_due(self):
        words = set()
        for web in SMALL:
            can = {tuple(own_ins(web, pointing)) for pointing in all_pointings(web)}
            most = 5 if len(web.points()) < 4 else 3
            for ins in itertools.product(range(most + 1), repeat=len(web.points())):
                parts = [part for part in some_lots(web) + [web.points()] if self.shows(web, ins, part)]
                self.assertEqual(parts == [], ins in can)
                if ins in can:
                    self.met(web, list(ins))
                else:
                    words.add(self.shown(web, list(ins))[0])
        self.assertEqual(words, {"within", "touching"})

    def shows(self, web, ins, part):
        """Whether these points show that the ins can't be met."""
        wanted = sum(many for point, many in zip(web.points(), ins) if point in part)
        inside = [sum(end in part for end in tie) for tie in web.ties()]
        return inside.count(2) > wanted or inside.count(1) + inside.count(2) < wanted

    def test_webs_by_chance(self):
        chance, refused = random.Random(24), 0
        for web in chance_webs(25, 300, 9, 20):
            ins = own_ins(web, [chance.randint(0, 1) for _ in range(web.many())])
            for _ in range(3):
                one, other = chance.choice(range(len(ins))), chance.choice(range(len(ins)))
                if ins[other] > 0:
                    ins[one], ins[other] = ins[one] + 1, ins[other] - 1
            parts = some_lots(web) + [web.points()]
            if any(self.shows(web, ins, part) for part in parts):
                self.shown(web, ins)
                refused += 1
            else:
                self.met(web, ins)
        self.assertGreater(refused, 20)

    def test_all_points_show_it(self):
        self.assertEqual(self.shown(ONE, [1]), ("touching", ["a"]))
        self.assertEqual(self.shown(THREE, [2, 1, 1]), ("touching", ["a", "b", "c"]))
        self.assertEqual(self.shown(THREE, [1, 1, 0]), ("within", ["a", "b", "c"]))
        self.assertEqual(self.shown(web_of("b a; ab"), [0, 0]), ("within", ["b", "a"]))

    def test_some_points_show_it(self):
        # All together are as many as the ties, so all points show nothing.
        for web, ins in [(PARTED, [0, 2, 0, 2]), (HUNG, [0, 2, 1, 1, 0, 3]), (FULL, [0, 0, 3, 3]), (ROW, [2, 0, 0, 1])]:
            if self.shows(web, ins, web.points()):
                self.fail("the ins are to be as many as the ties")
            self.assertIn(self.shown(web, ins)[1], some_lots(web))

    def test_large_numbers(self):
        large = 10 ** 18 - 1
        for ins in [[large, 0, 0], [0, 0, large], [large, large, large], (1, large, 1)]:
            self.shown(THREE, ins)
        self.shown(ONE, [large])
        self.shown(LARGE, [large] * 9)
        self.shown(LARGE, [0] * 9)

    def test_no_numbers(self):
        for web in [THREE, LARGE, PARTED]:
            for thing in no_ins(web):
                refuses(self, NoNumbers, pointing_of, web, thing)
        for thing in [[], (), [0, 0], [None], [-1], [True], [False], ["0"], [[0]], None, "", "0", {}, {0: 0}, 0]:
            refuses(self, NoNumbers, pointing_of, ONE, thing)

    def test_no_numbers_goes_ahead(self):
        for thing in [[9, 9, -1], [0, 0, True], [9, 9, None], [0, 0], [9, 9, 9, 9], (9, "9", 9), [False, 0, 0]]:
            refuses(self, NoNumbers, pointing_of, THREE, thing)

    def test_what_is_handed_in_stays_and_may_be_changed(self):
        ins = [0, 1, 2]
        pointing = pointing_of(THREE, ins)
        self.assertEqual(ins, [0, 1, 2])
        ins.clear()
        self.assertEqual(pointing, [0, 0, 1])
        ins = [3, 3, 3]
        refuses(self, NoIns, pointing_of, THREE, ins)
        self.assertEqual(ins, [3, 3, 3])

    def test_what_is_told_is_its_asker_s_own(self):
        pointing_of(THREE, [0, 1, 2]).clear()
        pointing_of(THREE, [0, 1, 2])[0] = 7
        self.assertEqual(pointing_of(THREE, [0, 1, 2]), [0, 0, 1])
        before = self.shown(THREE, [3, 0, 0])
        with self.assertRaises(NoIns) as caught:
            pointing_of(THREE, [3, 0, 0])
        caught.exception.part.clear()
        self.assertEqual(self.shown(THREE, [3, 0, 0]), before)
        self.assertEqual(told(THREE), told(web_of("a b c; ab bc ca")))


class AllIns(unittest.TestCase):

    def held(self, web):
        """All ins are told, held against all pointings; how many they are."""
        rows = all_ins(web)
        self.assertIs(type(rows), list)
        for row in rows:
            self.assertIs(type(row), list)
            self.assertEqual([type(many) for many in row], [int] * len(web.points()))
        good = {tuple(own_ins(web, pointing)) for pointing in all_pointings(web) if all_reach_all(web, pointing)}
        self.assertEqual(rows, [list(row) for row in sorted(good)])
        return len(rows)

    def test_against_all_pointings(self):
        for web in SMALL + [SHARED, HUNG, TREE_AND_RING, NINE_RING, web_of("a b c d e; ac ca bd de eb")]:
            self.held(web)
        some = [self.held(web) for web in chance_webs(26, 300, 5, 8)]
        self.assertGreater(len([many for many in some if many > 1]), 20)

    def test_ordinary(self):
        self.assertEqual(all_ins(THREE), [[1, 1, 1]])
        self.assertEqual(all_ins(TWO_TIES), [[1, 1]])
        self.assertEqual(all_ins(web_of("a b; ab ab ba")), [[1, 2], [2, 1]])
        self.assertEqual(all_ins(web_of("a b c; ab bc ca ab")), [[1, 2, 1], [2, 1, 1]])

    def test_one_point(self):
        self.assertEqual(all_ins(ONE), [[0]])

    def test_none(self):
        for web in [web_of("a b"), web_of("a b c; ab ba"), PARTED, web_of("a b; ab"), ROW, HUNG, TREE_AND_RING,
                    web_of("a b c; " + "ab " * 12), web_of("a b c; bc " + "ab " * 11)]:
            self.assertEqual(all_ins(web), [])

    def test_twelve_ties(self):
        self.assertEqual(all_ins(web_of("a b; " + "ab ba " * 6)), [[many, 12 - many] for many in range(1, 12)])
        for web in [web_of("a b c d; ab bc cd da ac bd ab bc cd da ac bd"),
                    web_of("a b c d e f g h i; ab cb cd ed ef gf gh ih ia ca ge bh")]:
            self.assertGreater(self.held(web), 10)

    def test_too_much(self):
        for web in [web_of("a b; " + "ab " * 13), LARGE, web_of("a b c; " + "ab " * 13),
                    web_of("a b c; bc " + "ab " * 12), web_of("a b c d; cd " + "ab ba " * 6),
                    web_of("a b; " + "ab ba " * 10)]:
            refuses(self, TooMuch, all_ins, web)

    def test_what_is_told_is_its_asker_s_own(self):
        web = web_of("a b; ab ab ba")
        rows = all_ins(web)
        rows[0].clear()
        rows[1][0] = 9
        rows.append(1)
        self.assertEqual(all_ins(web), [[1, 2], [2, 1]])
        self.assertEqual(told(web), told(web_of("a b; ab ab ba")))

    def test_each_is_met(self):
        for web in [FULL, SHARED, NINE_RING]:
            for row in all_ins(web):
                self.assertTrue(all_reach_all(web, pointing_of(web, row)))

    def test_the_refusal_is_made_of_a_text(self):
        self.assertEqual(refusal_of(all_ins, LARGE), (TooMuch, None))


if __name__ == "__main__":
    unittest.main()
