"""The whole: promise 4 as far as the parts are there, and that the same is told when asked again (2)."""

import copy
import random
import unittest

from pointways.beforehand import forced, pointed_with
from pointways.clusters import bars, clusters
from pointways.ears import ears, reads_ears
from pointways.ins import entering, ins_of
from pointways.lots import within
from pointways.pointed import by_ears, pointed
from pointways.pointings import is_pointing, pointing_text, read_pointing, turned
from pointways.reaching import reached, shut_lot, way
from pointways.turnings import fewest
from pointways.webs import renamed, reordered
from things import all_reach_all, chance_webs, refusal_of, sample_webs, told


def webs():
    return sample_webs() + chance_webs(17, 150, 9, 14)


def other_names(web, chance):
    names = ["a", "b", "zzzz", "ab", "ba", "c", "cc", "x", "i"]
    chance.shuffle(names)
    return dict(zip(web.points(), names))


class CalledOtherwise(unittest.TestCase):
    """Points called otherwise, and ties in another order, leave what is counted and refused as it is."""

    def several(self):
        """Each web with a pointing and what is fixed, and the same called otherwise and in another order."""
        chance = random.Random(18)
        for web in webs():
            many = web.many()
            order = chance.sample(range(many), many)
            other = reordered(renamed(web, other_names(web, chance)), order)
            pointing = [chance.randint(0, 1) for _ in range(many)]
            fixed = {number: pointing[number] for number in chance.sample(range(many), many // 3)}
            yield (web, pointing, fixed, other, [pointing[number] for number in order],
                   {order.index(number): lead for number, lead in fixed.items()})

    def test_how_many(self):
        for web, pointing, fixed, other, other_pointing, other_fixed in self.several():
            self.assertEqual([len(one) for one in clusters(web)], [len(one) for one in clusters(other)])
            self.assertEqual(len(bars(web)), len(bars(other)))
            self.assertEqual(ins_of(web, pointing), ins_of(other, other_pointing))
            refused, one = refusal_of(fewest, web, pointing)
            other_refused, two = refusal_of(fewest, other, other_pointing)
            self.assertEqual(refused, other_refused)
            if refused is None:
                self.assertEqual([len(row) for row in one], [len(row) for row in two])
            refused, one = refusal_of(forced, web, fixed)
            other_refused, two = refusal_of(forced, other, other_fixed)
            self.assertEqual(refused, other_refused)
            if refused is None:
                self.assertEqual(len(one), len(two))

    def test_whether_anything_is_refused(self):
        for web, pointing, fixed, other, other_pointing, other_fixed in self.several():
            for deed in [ears, pointed]:
                self.assertEqual(refusal_of(deed, web)[0], refusal_of(deed, other)[0])
            self.assertEqual(refusal_of(pointed_with, web, fixed)[0], refusal_of(pointed_with, other, other_fixed)[0])
            self.assertEqual(shut_lot(web, pointing) is None, shut_lot(other, other_pointing) is None)


class Together(unittest.TestCase):
    """What is told by one part is taken by the others, whatever it is."""

    def test_what_is_told_may_be_handed_in_again(self):
        for web in webs():
            refused, row = refusal_of(ears, web)
            if refused is not None:
                self.assertIs(refusal_of(pointed, web)[0], refused)
                self.assertIsNotNone(refusal_of(pointed_with, web, {})[0])
                continue
            self.assertIs(reads_ears(web, row), True)
            for pointing in [pointed(web), by_ears(web, row), pointed_with(web, {})]:
                self.assertIs(is_pointing(web, pointing), True)
                self.assertTrue(all_reach_all(web, pointing))
                self.assertIsNone(shut_lot(web, pointing))
                self.assertEqual(read_pointing(web, pointing_text(web, pointing)), pointing)
                self.assertEqual(pointed_with(web, dict(enumerate(pointing))), pointing)

    def test_turned_in_fewest_no_lot_is_shut(self):
        for web in webs():
            pointing = [0] * web.many()
            refused, answer = refusal_of(fewest, web, pointing)
            if refused is None:
                numbers, lots = answer
                self.assertIsNone(shut_lot(web, turned(web, pointing, numbers)))
                for lot in lots:
                    self.assertEqual(entering(web, pointing, lot), 0)
                    self.assertEqual(sum(ins_of(web, pointing)[web.points().index(point)] for point in lot),
                                     len(within(web, lot)))

    def test_a_shut_lot_has_none_entering(self):
        for web in webs():
            pointing = [at % 2 for at in range(web.many())]
            lot = shut_lot(web, pointing)
            if lot is not None:
                self.assertEqual(entering(web, pointing, lot), 0)
                reaching = reached(web, pointing, [point for point in web.points() if point not in lot][0])
                self.assertEqual([point for point in reaching if point in lot], [])


class AskedAgain(unittest.TestCase):

    def test_the_same_is_told(self):
        for web in webs():
            was = told(web)
            pointing = [at // 2 % 2 for at in range(web.many())]
            fixed = {number: lead for number, lead in enumerate(pointing) if number % 4 == 1}
            a, b = web.points()[0], web.points()[-1]
            for deed, *handed in [(clusters,), (bars,), (ears,), (pointed,), (pointed_with, fixed), (forced, fixed),
                                  (fewest, pointing), (ins_of, pointing), (entering, pointing, [a]),
                                  (shut_lot, pointing), (way, pointing, a, b), (reached, pointing, a),
                                  (turned, pointing, list(range(0, web.many(), 3)))]:
                before = copy.deepcopy(handed)
                one = refusal_of(deed, web, *handed)
                self.assertEqual(refusal_of(deed, web, *handed), one)
                self.assertEqual(handed, before)
            self.assertEqual(told(web), was)


if __name__ == "__main__":
    unittest.main()
