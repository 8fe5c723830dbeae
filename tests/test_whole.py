"""The whole: promise 4, and 2 and 3 for all parts: asked again the same, what is told is its asker's own."""

import copy
import itertools
import random
import unittest

from pointways.apart import ways_apart
from pointways.beforehand import forced, pointed_with
from pointways.between import steps_between
from pointways.clusters import bars, clusters
from pointways.counts import all_pointed, how_many
from pointways.ears import ears, reads_ears
from pointways.errors import PointError, Thin, TooMuch
from pointways.farthest import far, farthest
from pointways.ins import entering, ins_of
from pointways.lots import crossing, lot_of, within
from pointways.meeting import all_ins, pointing_of
from pointways.over import pointed_over, times_over
from pointways.papers import least_farthest, reads_paper
from pointways.pointed import by_ears, pointed
from pointways.pointings import is_pointing, pointing_text, read_pointing, turned
from pointways.reaching import reached, shut_lot, way
from pointways.rings import rings_between
from pointways.turnings import fewest
from pointways.webs import Web, renamed, reordered
from pointways.webtexts import web_text
from things import all_reach_all, chance_webs, refusal_of, sample_webs, told


def webs():
    return sample_webs() + chance_webs(17, 150, 9, 14)


def other_names(web, chance):
    names = ["a", "b", "zzzz", "ab", "ba", "c", "cc", "x", "i"]
    chance.shuffle(names)
    return dict(zip(web.points(), names))


class Otherwise:
    """A web with other names, its ties in another order and some of them told the other way about."""

    def __init__(self, web, chance):
        self.order = chance.sample(range(web.many()), web.many())
        self.about = [chance.randint(0, 1) for _ in self.order]
        self.names = other_names(web, chance)
        other = reordered(renamed(web, self.names), self.order)
        self.web = Web(other.points(), [tie[::-1] if about else tie for tie, about in zip(other.ties(), self.about)])

    def pointing(self, pointing):
        """The same pointing, of this web."""
        return [pointing[number] ^ about for number, about in zip(self.order, self.about)]

    def fixed(self, fixed):
        """The same ties fixed, of this web."""
        return {at: fixed[number] ^ self.about[at] for at, number in enumerate(self.order) if number in fixed}

    def paper(self, paper):
        """The same paper, of this web."""
        if paper[0] == "far":
            return ("far", self.names[paper[1]], self.names[paper[2]])
        at = self.order.index(paper[1])
        papers = [self.paper(one) for one in paper[2:]]
        return ("fork", at, *(papers[::-1] if self.about[at] else papers))


class CalledOtherwise(unittest.TestCase):
    """Points called otherwise, and ties in another order, leave what is counted and refused as it is."""

    def several(self):
        """Each web, the same otherwise, and a source of chance."""
        chance = random.Random(18)
        for web in webs():
            yield web, Otherwise(web, chance), chance

    def drawn(self, web, chance):
        """A pointing by chance."""
        return [chance.randint(0, 1) for _ in range(web.many())]

    def alike(self, measure, deed, web_and_handed, other_and_handed):
        """Both are refused alike, or what both tell has the same measure."""
        refused, one = refusal_of(deed, *web_and_handed)
        other_refused, other = refusal_of(deed, *other_and_handed)
        self.assertEqual(refused, other_refused)
        if refused is None:
            self.assertEqual(measure(one), measure(other))

    def test_of_the_web_alone(self):
        for web, same, _ in self.several():
            self.alike(lambda told: [len(one) for one in told], clusters, [web], [same.web])
            for deed in [bars, ears, pointed, all_ins, all_pointed]:
                self.alike(len, deed, [web], [same.web])
            self.alike(int, how_many, [web], [same.web])
            self.alike(lambda told: told[0], least_farthest, [web], [same.web])
            for k in [0, 1, 2, 3, 9]:
                self.alike(len, pointed_over, [web, k], [same.web, k])

    def test_of_a_pointing(self):
        for web, same, chance in self.several():
            pointing = self.drawn(web, chance)
            both = [web, pointing], [same.web, same.pointing(pointing)]
            self.alike(list, ins_of, *both)
            self.alike(lambda told: [len(row) for row in told], fewest, *both)
            self.alike(lambda told: told is None, shut_lot, *both)
            self.alike(lambda told: told and told[0], times_over, *both)
            self.alike(lambda told: told and told[0], farthest, *both)

    def test_of_what_is_fixed(self):
        for web, same, chance in self.several():
            pointing = self.drawn(web, chance)
            fixed = {number: pointing[number] for number in chance.sample(range(web.many()), web.many() // 3)}
            for deed in [pointed_with, forced]:
                self.alike(len, deed, [web, fixed], [same.web, same.fixed(fixed)])

    def test_of_points(self):
        for web, same, chance in self.several():
            pointing = self.drawn(web, chance)
            a, b = chance.choice(web.points()), chance.choice(web.points())
            both = [web, pointing, a, b], [same.web, same.pointing(pointing), same.names[a], same.names[b]]
            self.alike(lambda told: told and len(told), way, *both)
            self.alike(lambda told: told, far, *both)
            self.alike(lambda told: len(told[0]), ways_apart, *both)

    def test_of_ins(self):
        for web, same, chance in self.several():
            ins = ins_of(web, self.drawn(web, chance))
            chance.shuffle(ins)
            self.alike(len, pointing_of, [web, ins], [same.web, ins])

    def test_of_two_pointings(self):
        for web, same, chance in self.several():
            one, other = pointing_of(web, ins_of(web, self.drawn(web, chance))), self.drawn(web, chance)
            for two in [other, pointing_of(web, ins_of(web, one)), [1 - lead for lead in one]]:
                both = [web, one, two], [same.web, same.pointing(one), same.pointing(two)]
                self.alike(lambda told: len(sum(told, [])), rings_between, *both)
                self.ways_alike(*both)

    def ways_alike(self, web_and_handed, other_and_handed):
        """As many ways lead from the one pointing to the other, or both are refused alike."""
        for k in [1, 2]:
            self.alike(lambda told: [kind for kind, _ in told].count("way"), steps_between, web_and_handed + [k],
                       other_and_handed + [k])

    def test_of_two_pointings_by_which_all_reach_all(self):
        for web, same, _ in self.several():
            if refusal_of(pointed, web)[0] is None:
                one = pointed(web)
                for two in [pointed_over(web, 1), [1 - lead for lead in one], pointed_with(web, {})]:
                    self.ways_alike([web, one, two], [same.web, same.pointing(one), same.pointing(two)])

    def test_of_papers(self):
        for web, same, _ in self.several():
            refused, answer = refusal_of(least_farthest, web)
            if refused is None and answer[2] is not None:
                number, _, paper = answer
                self.assertIs(reads_paper(same.web, number, same.paper(paper)), True)
                self.assertIs(reads_paper(same.web, number + 1, same.paper(paper)), False)


class Together(unittest.TestCase):
    """What is told by one part is taken by the others, whatever it is."""

    def test_what_is_told_may_be_handed_in_again(self):
        for web in webs():
            refused, row = refusal_of(ears, web)
            if refused is not None:
                self.assertIs(refusal_of(pointed, web)[0], refused)
                self.assertIsNotNone(refusal_of(pointed_with, web, {})[0])
                self.assertIs(refusal_of(pointed_over, web, 1)[0], Thin)
                for deed in [all_ins, all_pointed]:
                    self.assertEqual(refusal_of(deed, web), (TooMuch, None) if web.many() > 12 else (None, []))
                self.assertIs(refusal_of(least_farthest, web)[0], TooMuch if web.many() > 10 else refused)
                self.assertIs(refusal_of(fewest, web, [0] * web.many())[0], TooMuch if web.many() > 12 else refused)
                self.assertEqual(how_many(web), 0)
                continue
            self.assertIs(reads_ears(web, row), True)
            self.assertGreater(how_many(web), 0)
            for pointing in self.pointings(web, row):
                self.assertIs(is_pointing(web, pointing), True)
                self.assertTrue(all_reach_all(web, pointing))
                self.assertIsNone(shut_lot(web, pointing))
                self.assertEqual(read_pointing(web, pointing_text(web, pointing)), pointing)
                self.assertEqual(pointed_with(web, dict(enumerate(pointing))), pointing)
                again = pointing_of(web, ins_of(web, pointing))
                self.assertTrue(all_reach_all(web, again))
                self.assertEqual(turned(web, again, sum(rings_between(web, again, pointing), [])), pointing)

    def pointings(self, web, row):
        """What all functions that point a web tell of it."""
        some = [pointed(web), by_ears(web, row), pointed_with(web, {}), pointed_over(web, 1)]
        if web.many() <= 12:
            some.append(turned(web, [0] * web.many(), fewest(web, [0] * web.many())[0]))
            some += [pointing_of(web, ins) for ins in all_ins(web)[:5]] + all_pointed(web)[:5]
        if web.many() <= 10:
            some.append(least_farthest(web)[1])
        return some

    def test_led_to_one_another(self):
        for web in webs():
            refused, row = refusal_of(ears, web)
            some = [] if refused is not None else self.pointings(web, row)[:6]
            for one, other in itertools.product(some, repeat=2):
                here = one
                for _, numbers in steps_between(web, one, other, 1):
                    here = turned(web, here, numbers)
                    self.assertIsNone(shut_lot(web, here))
                    self.assertGreater(times_over(web, here)[0], 0)
                self.assertEqual(here, other)

    def test_as_many_are_counted_as_are_listed(self):
        for web in webs():
            if web.many() <= 12:
                rows = all_pointed(web)
                self.assertEqual(how_many(web), len(rows))
                self.assertEqual(all_ins(web), sorted(map(list, {tuple(ins_of(web, row)) for row in rows})))
                if 0 < len(rows) and web.many() <= 10:
                    self.assertEqual(least_farthest(web)[0], min(farthest(web, row)[0] for row in rows))

    def test_a_lot_is_entered_as_often_as_ways_are_apart(self):
        for web in webs():
            pointing = [at * 5 // 3 % 2 for at in range(web.many())]
            pairs = list(itertools.permutations(web.points(), 2))
            told_over = times_over(web, pointing)
            if pairs:
                self.assertEqual(min(len(ways_apart(web, pointing, a, b)[0]) for a, b in pairs), told_over[0])
            for a, b in pairs[::5]:
                ways, lot = ways_apart(web, pointing, a, b)
                self.assertEqual(entering(web, pointing, lot), len(ways))
                self.assertEqual(far(web, pointing, a, b) is None, ways == [])

    def test_turned_in_fewest_no_lot_is_shut(self):
        for web in webs():
            pointing = [0] * web.many()
            refused, answer = refusal_of(fewest, web, pointing)
            if refused is None:
                numbers, lots = answer
                self.assertIsNone(shut_lot(web, turned(web, pointing, numbers)))
                for lot in lots:
                    self.assertEqual(entering(web, pointing, lot), 0)
                    self.assertEqual(sum(ins_of(web, pointing)[web.points().index(point)] for point in lot),
                                     len(within(web, lot)))

    def test_a_shut_lot_has_none_entering(self):
        for web in webs():
            pointing = [at % 2 for at in range(web.many())]
            lot = shut_lot(web, pointing)
            if lot is not None:
                self.assertEqual(entering(web, pointing, lot), 0)
                reaching = reached(web, pointing, [point for point in web.points() if point not in lot][0])
                self.assertEqual([point for point in reaching if point in lot], [])


class AskedAgain(unittest.TestCase):

    def deeds(self, web):
        """All functions that are handed a web, each with what else it is handed."""
        pointing = [at // 2 % 2 for at in range(web.many())]
        other, good = [1 - lead for lead in pointing], refusal_of(pointed, web)[1] or pointing
        fixed = {number: lead for number, lead in enumerate(pointing) if number % 4 == 1}
        numbers = list(range(0, web.many(), 3))
        a, b = web.points()[0], web.points()[-1]
        ins, row = ins_of(web, pointing), refusal_of(ears, web)[1] or []
        paper = ["fork", 0, ["far", a, b], ["far", b, a]]
        return [(clusters,), (bars,), (ears,), (pointed,), (all_ins,), (how_many,), (all_pointed,), (least_farthest,),
                (web_text,), (renamed, {point: point * 2 for point in web.points()}),
                (reordered, list(range(web.many()))[::-1]), (lot_of, [b]), (crossing, [a]), (within, [a]),
                (reads_ears, row), (by_ears, row), (is_pointing, pointing), (turned, pointing, numbers),
                (pointing_text, pointing), (read_pointing, pointing_text(web, pointing)), (way, pointing, a, b),
                (reached, pointing, a), (shut_lot, pointing), (pointed_with, fixed), (forced, fixed),
                (pointed_with, {}), (forced, {}), (fewest, pointing), (ins_of, pointing), (entering, pointing, [a]),
                (pointing_of, ins), (pointing_of, [1] * len(ins)), (times_over, pointing), (times_over, good),
                (pointed_over, 0), (pointed_over, 1), (pointed_over, 2), (ways_apart, pointing, a, b),
                (ways_apart, good, b, a), (rings_between, pointing, other),
                (rings_between, pointing, pointing_of(web, ins)), (steps_between, pointing, other, 1),
                (steps_between, good, [1 - lead for lead in good], 1), (far, pointing, a, b), (farthest, pointing),
                (farthest, good), (reads_paper, 1, paper), (reads_paper, 2, paper)]

    def plain(self, answer):
        """What is told, a web by all that it tells of itself, a refusal by its class and values."""
        return told(answer) if isinstance(answer, Web) else answer

    def asked(self, deed, web, handed):
        """What the deed tells, or its refusal's class and values."""
        try:
            return self.plain(deed(web, *handed))
        except PointError as refusal:
            return type(refusal), dict(vars(refusal))

    def test_the_same_is_told(self):
        for web in webs():
            was = told(web)
            for deed, *handed in self.deeds(web):
                before = copy.deepcopy(handed)
                one = self.asked(deed, web, handed)
                self.assertEqual(handed, before)
                self.assertEqual(self.asked(deed, web, handed), one)
                self.assertEqual(handed, before)
            self.assertEqual(told(web), was)

    def test_what_is_told_is_its_asker_s_own(self):
        for web in webs()[::3]:
            was = told(web)
            for deed, *handed in self.deeds(web):
                before, answer = copy.deepcopy(handed), self.asked(deed, web, handed)
                kept = copy.deepcopy(answer)
                self.spoil(answer)
                self.assertEqual(handed, before)
                self.assertEqual(self.asked(deed, web, handed), kept)
            self.assertEqual(told(web), was)

    def test_what_is_handed_in_may_be_changed(self):
        for web in webs()[::3]:
            for deed, *handed in self.deeds(web):
                answer = self.asked(deed, web, handed)
                kept = copy.deepcopy(answer)
                self.spoil(handed)
                self.assertEqual(answer, kept)

    def spoil(self, thing):
        """Changes a thing through and through, as far as it can be changed."""
        if isinstance(thing, dict):
            self.spoil(list(thing.values()))
            thing.clear()
        if isinstance(thing, (list, tuple)):
            for one in thing:
                self.spoil(one)
        if isinstance(thing, list):
            thing[:] = ["spoilt"]

    def test_no_list_is_told_twice(self):
        for web in webs()[::3]:
            for deed, *handed in self.deeds(web):
                lists = self.lists_in(self.asked(deed, web, handed))
                self.assertEqual(len(lists), len({id(one) for one in lists}))
                own = {id(one) for one in self.lists_in(handed)}
                self.assertEqual([one for one in lists if id(one) in own], [])

    def lists_in(self, thing):
        """All lists and dicts within a thing, itself among them."""
        inner = list(thing.values()) if isinstance(thing, dict) else thing
        found = [thing] if isinstance(thing, (list, dict)) else []
        if isinstance(inner, (list, tuple)):
            for one in inner:
                found += self.lists_in(one)
        return found


if __name__ == "__main__":
    unittest.main()
