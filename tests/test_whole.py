"""The whole: promise 4 as far as the parts are there, and that the same is told when asked again (2)."""

import copy
import random
import unittest

from pointways.apart import ways_apart
from pointways.beforehand import forced, pointed_with
from pointways.clusters import bars, clusters
from pointways.ears import ears, reads_ears
from pointways.errors import Thin, TooMuch
from pointways.ins import entering, ins_of
from pointways.lots import within
from pointways.meeting import all_ins, pointing_of
from pointways.over import pointed_over, times_over
from pointways.pointed import by_ears, pointed
from pointways.pointings import is_pointing, pointing_text, read_pointing, turned
from pointways.reaching import reached, shut_lot, way
from pointways.rings import rings_between
from pointways.turnings import fewest
from pointways.webs import Web, renamed, reordered
from things import all_reach_all, chance_webs, refusal_of, sample_webs, told


def webs():
    return sample_webs() + chance_webs(17, 150, 9, 14)


def other_names(web, chance):
    names = ["a", "b", "zzzz", "ab", "ba", "c", "cc", "x", "i"]
    chance.shuffle(names)
    return dict(zip(web.points(), names))


class Otherwise:
    """A web with other names, its ties in another order and some of them told the other way about."""

    def __init__(self, web, chance):
        self.order = chance.sample(range(web.many()), web.many())
        self.about = [chance.randint(0, 1) for _ in self.order]
        self.names = other_names(web, chance)
        other = reordered(renamed(web, self.names), self.order)
        self.web = Web(other.points(), [tie[::-1] if about else tie for tie, about in zip(other.ties(), self.about)])

    def pointing(self, pointing):
        """The same pointing, of this web."""
        return [pointing[number] ^ about for number, about in zip(self.order, self.about)]

    def fixed(self, fixed):
        """The same ties fixed, of this web."""
        return {at: fixed[number] ^ self.about[at] for at, number in enumerate(self.order) if number in fixed}


class CalledOtherwise(unittest.TestCase):
    """Points called otherwise, and ties in another order, leave what is counted and refused as it is."""

    def several(self):
        """Each web, the same otherwise, and a source of chance."""
        chance = random.Random(18)
        for web in webs():
            yield web, Otherwise(web, chance), chance

    def drawn(self, web, chance):
        """A pointing by chance."""
        return [chance.randint(0, 1) for _ in range(web.many())]

    def alike(self, measure, deed, web_and_handed, other_and_handed):
        """Both are refused alike, or what both tell has the same measure."""
        refused, one = refusal_of(deed, *web_and_handed)
        other_refused, other = refusal_of(deed, *other_and_handed)
        self.assertEqual(refused, other_refused)
        if refused is None:
            self.assertEqual(measure(one), measure(other))

    def test_of_the_web_alone(self):
        for web, same, _ in self.several():
            self.alike(lambda told: [len(one) for one in told], clusters, [web], [same.web])
            for deed in [bars, ears, pointed, all_ins]:
                self.alike(len, deed, [web], [same.web])
            for k in [0, 1, 2, 3, 9]:
                self.alike(len, pointed_over, [web, k], [same.web, k])

    def test_of_a_pointing(self):
        for web, same, chance in self.several():
            pointing = self.drawn(web, chance)
            both = [web, pointing], [same.web, same.pointing(pointing)]
            self.alike(list, ins_of, *both)
            self.alike(lambda told: [len(row) for row in told], fewest, *both)
            self.alike(lambda told: told is None, shut_lot, *both)
            self.alike(lambda told: told and told[0], times_over, *both)

    def test_of_what_is_fixed(self):
        for web, same, chance in self.several():
            pointing = self.drawn(web, chance)
            fixed = {number: pointing[number] for number in chance.sample(range(web.many()), web.many() // 3)}
            for deed in [pointed_with, forced]:
                self.alike(len, deed, [web, fixed], [same.web, same.fixed(fixed)])

    def test_of_points(self):
        for web, same, chance in self.several():
            pointing = self.drawn(web, chance)
            a, b = chance.choice(web.points()), chance.choice(web.points())
            both = [web, pointing, a, b], [same.web, same.pointing(pointing), same.names[a], same.names[b]]
            self.alike(lambda told: told and len(told), way, *both)
            self.alike(lambda told: len(told[0]), ways_apart, *both)

    def test_of_ins(self):
        for web, same, chance in self.several():
            ins = ins_of(web, self.drawn(web, chance))
            chance.shuffle(ins)
            self.alike(len, pointing_of, [web, ins], [same.web, ins])

    def test_of_two_pointings(self):
        for web, same, chance in self.several():
            one, other = pointing_of(web, ins_of(web, self.drawn(web, chance))), self.drawn(web, chance)
            for two in [other, pointing_of(web, ins_of(web, one)), [1 - lead for lead in one]]:
                self.alike(lambda told: len(sum(told, [])), rings_between, [web, one, two],
                           [same.web, same.pointing(one), same.pointing(two)])


class Together(unittest.TestCase):
    """What is told by one part is taken by the others, whatever it is."""

    def test_what_is_told_may_be_handed_in_again(self):
        for web in webs():
            refused, row = refusal_of(ears, web)
            if refused is not None:
                self.assertIs(refusal_of(pointed, web)[0], refused)
                self.assertIsNotNone(refusal_of(pointed_with, web, {})[0])
                self.assertIs(refusal_of(pointed_over, web, 1)[0], Thin)
                self.assertIn(refusal_of(all_ins, web), [(None, []), (TooMuch, None)])
                continue
            self.assertIs(reads_ears(web, row), True)
            for pointing in [pointed(web), by_ears(web, row), pointed_with(web, {}), pointed_over(web, 1)]:
                self.assertIs(is_pointing(web, pointing), True)
                self.assertTrue(all_reach_all(web, pointing))
                self.assertIsNone(shut_lot(web, pointing))
                self.assertEqual(read_pointing(web, pointing_text(web, pointing)), pointing)
                self.assertEqual(pointed_with(web, dict(enumerate(pointing))), pointing)
                again = pointing_of(web, ins_of(web, pointing))
                self.assertTrue(all_reach_all(web, again))
                self.assertEqual(turned(web, again, sum(rings_between(web, again, pointing), [])), pointing)

    def test_turned_in_fewest_no_lot_is_shut(self):
        for web in webs():
            pointing = [0] * web.many()
            refused, answer = refusal_of(fewest, web, pointing)
            if refused is None:
                numbers, lots = answer
                self.assertIsNone(shut_lot(web, turned(web, pointing, numbers)))
                for lot in lots:
                    self.assertEqual(entering(web, pointing, lot), 0)
                    self.assertEqual(sum(ins_of(web, pointing)[web.points().index(point)] for point in lot),
                                     len(within(web, lot)))

    def test_a_shut_lot_has_none_entering(self):
        for web in webs():
            pointing = [at % 2 for at in range(web.many())]
            lot = shut_lot(web, pointing)
            if lot is not None:
                self.assertEqual(entering(web, pointing, lot), 0)
                reaching = reached(web, pointing, [point for point in web.points() if point not in lot][0])
                self.assertEqual([point for point in reaching if point in lot], [])


class AskedAgain(unittest.TestCase):

    def test_the_same_is_told(self):
        for web in webs():
            was = told(web)
            pointing = [at // 2 % 2 for at in range(web.many())]
            fixed = {number: lead for number, lead in enumerate(pointing) if number % 4 == 1}
            a, b = web.points()[0], web.points()[-1]
            for deed, *handed in [(clusters,), (bars,), (ears,), (pointed,), (pointed_with, fixed), (forced, fixed),
                                  (fewest, pointing), (ins_of, pointing), (entering, pointing, [a]),
                                  (shut_lot, pointing), (way, pointing, a, b), (reached, pointing, a),
                                  (turned, pointing, list(range(0, web.many(), 3))), (all_ins,),
                                  (pointing_of, ins_of(web, pointing)), (pointing_of, [1] * len(web.points())),
                                  (times_over, pointing), (pointed_over, 0), (pointed_over, 1), (pointed_over, 2),
                                  (ways_apart, pointing, a, b), (ways_apart, pointing, b, a),
                                  (rings_between, pointing, [1 - lead for lead in pointing]),
                                  (rings_between, pointing, pointing_of(web, ins_of(web, pointing)))]:
                before = copy.deepcopy(handed)
                one = refusal_of(deed, web, *handed)
                self.assertEqual(refusal_of(deed, web, *handed), one)
                self.assertEqual(handed, before)
            self.assertEqual(told(web), was)


if __name__ == "__main__":
    unittest.main()
