"""Things that several tests hand in, and searches of the tests' own."""

import copy
import itertools
import random

from pointways.webs import Web


class Anything:
    """An object that says it is equal to everything."""

    def __eq__(self, other):
        return True

    def __hash__(self):
        return 0


class Like:
    """An object that says it is equal to one thing, and is none."""

    def __init__(self, thing):
        self.thing = thing

    def __eq__(self, other):
        return other == self.thing

    def __hash__(self):
        return hash(self.thing)


def no_lists():
    """Things that are neither a list nor a tuple."""
    return [None, True, False, 0, 1, -3, "", "a", "ab", "a b", b"ab", {}, {"a": "b"}, {0: 1, 1: 0},
            set(), {"a"}, frozenset(["a"]), range(2), object(), Anything(), iter(["a"]), len, int, NotImplemented]


def no_names():
    """Things that are no name."""
    return ["", "abcde", "abcdefgh", "A", "aB", "a1", "1", " ", "a b", " a", "a ", "a-b", "a;", "-", ".", "a_",
            "\n", "a\n", "\ta", "~", "{", "`", "@", "[",
            None, True, False, 0, 1, -1, 10 ** 17, b"a", [], ["a"], (), ("a",), ("a", "b"), {}, {"a": "a"},
            set(), {"a"}, object(), Anything(), Like("a"), Like("b"), Like("bb"), len, str, [[["a"]]], nested(20)]


def no_numbers():
    """Things that are no whole number."""
    return [None, True, False, "", "0", "1", "a", b"0", [], [0], (0,), {}, {0: 0}, set(), object(), Anything(),
            Like(0), Like(1), int]


def no_pointings(web):
    """Things that are no pointing of a web that has ties."""
    many = web.many()
    things = no_lists() + [[], (), [0] * (many - 1), [0] * (many + 1), (1,) * (many + 1), "0" * many, b"0" * many,
                           {number: 0 for number in range(many)}, [[0] * many], Like([0] * many), range(many)]
    for thing in no_numbers() + [2, -1, 10 ** 17]:
        things += [put([0] * many, at, thing) for at in range(many)]
        things.append((thing,) * many)
    return things


def no_fixed(web):
    """Things that fix no ties of a web that has two or more."""
    many = web.many()
    things = [thing for thing in no_lists() if not isinstance(thing, dict)]
    things += [[], (), [0], [0] * many, [(0, 1)], ((0, 0), (1, 1)), [[0, 1]], "01", "0", 0, {0}, Like({})]
    for key in [many, many + 1, -1, -many, 10 ** 17, "", "0", "a", None, (), (0,), (0, 1), b"0", object(), len]:
        things += [{key: 0}, {0: 0, key: 1}, {key: 1, 1: 1}]
    # Beside a number these would be taken for it as keys, so they stand alone.
    things += [{Like(0): 0}, {Like(1): 1}, {Anything(): 0}]
    for lead in [2, -1, 10, 10 ** 17, True, False, None, "", "0", "a", b"0", [], [0], (0,), {}, {0: 0}, set(),
                 object(), Anything(), Like(0), Like(1), len]:
        things += [{0: lead}, {1: lead}, {0: 0, 1: lead}, {many - 1: lead}]
    return things


def no_ins(web):
    """Things that are no ins for a web, met or not."""
    many = len(web.points())
    things = no_lists() + [[], (), [0] * (many - 1), [0] * (many + 1), (1,) * (many + 1), "0" * many, b"0" * many,
                           {number: 0 for number in range(many)}, [[0] * many], Like([0] * many), range(many)]
    for thing in no_numbers() + [-1, -10 ** 17]:
        things += [put([1] * many, at, thing) for at in range(many)]
        things.append((thing,) * many)
    return things


def no_times():
    """Things that are no number from 0 to 9."""
    return no_numbers() + [-1, -2, -10, 10, 11, 100, 10 ** 17, "9", (1, 2), [1], len]


def nested(deep):
    """A list within a list, so many deep."""
    thing = ["a"]
    for _ in range(deep):
        thing = [thing]
    return thing


def put(things, at, thing):
    """A copy of a list with another thing in one place."""
    other = list(things)
    other[at] = thing
    return other


def told(web):
    """All that a web tells of itself."""
    return (web.points(), web.ties(), web.many())


def refuses(test, error, deed, *handed):
    """The deed refuses what is handed in with just that error, and leaves it as it was."""
    before = [copy.deepcopy(thing) if isinstance(thing, (list, tuple, dict)) and is_plain(thing) else None
              for thing in handed]
    with test.subTest(handed=repr(handed)):
        with test.assertRaises(error) as caught:
            deed(*handed)
        test.assertIs(type(caught.exception), error)
        for thing, was in zip(handed, before):
            if was is not None:
                test.assertEqual(thing, was)


def is_plain(thing):
    """Whether a copy of it can be told apart by ==."""
    if isinstance(thing, (list, tuple)):
        return all(is_plain(one) for one in thing)
    if isinstance(thing, dict):
        return all(is_plain(one) for pair in thing.items() for one in pair)
    return thing is None or isinstance(thing, (bool, int, str, bytes))


def web_of(text):
    """A web from its points and ties, each a word; a tie is two letters, so the points are letters."""
    points, _, ties = text.partition(";")
    return Web(points.split(), [tuple(tie) for tie in ties.split()])


ONE = web_of("a")
ROW = web_of("a b c d; ab cb cd")
RING = web_of("a b c d; ab cb cd da")
TWO_TIES = web_of("a b; ab ba")
HUNG = web_of("a x b y c z; ab bc ac xy yz zx cx")
SHARED = web_of("c a b d e; ab bc ca cd de ec")
PARTED = web_of("a x b y; ab xy ba yx")
FULL = web_of("a b c d; ab ac ad bc bd cd")
NINE_RING = web_of("a b c d e f g h i; ab bc dc de ef gf gh ih ia")
LARGE = web_of("a b c d e f g h i; ab bc dc de ef gf gh ih ia ac ca be eh hb ai ai gd fi ch gb")
TREE_AND_RING = web_of("d a b c e; ab bc ca dc de")


def rings_web(seed, points, rings, more):
    """A web of so many rings through all of its points, each in another order, and more ties."""
    chance = random.Random(seed)
    names, pairs = list("abcdefghi"[:points]), []
    for _ in range(rings):
        order = chance.sample(names, points)
        pairs += [(one, other) if chance.random() < 0.5 else (other, one)
                  for one, other in zip(order, order[1:] + order[:1])]
    pairs += [tuple(chance.sample(names, 2)) for _ in range(more)]
    chance.shuffle(pairs)
    return Web(names, pairs)


def sample_webs():
    """Webs of several forms: joined and not, with barring ties and without."""
    return [ONE, web_of("a b"), web_of("b a c"), web_of("a b; ba"), ROW, RING, TWO_TIES, HUNG, SHARED, PARTED, FULL,
            NINE_RING, LARGE, TREE_AND_RING, web_of("a b c; ab"), web_of("a b c; ab ba ab bc"),
            web_of("a b c d e; ac ca bd de eb")]


def chance_webs(seed, many, points, ties):
    """So many webs, the same at each call, of up to so many points and ties."""
    chance = random.Random(seed)
    webs = []
    for _ in range(many):
        names = list("abcdefghi"[:chance.randint(1, points)])
        chance.shuffle(names)
        pairs = list(itertools.permutations(names, 2))
        webs.append(Web(names, [chance.choice(pairs) for _ in range(chance.randint(0, ties) if pairs else 0)]))
    return webs


def some_lots(web):
    """All lots of a web, each in order."""
    points = web.points()
    return [list(lot) for many in range(1, len(points)) for lot in itertools.combinations(points, many)]


def all_pointings(web):
    """All pointings of a web, each a list."""
    return [list(leads) for leads in itertools.product([0, 1], repeat=web.many())]


def some_pointings(web):
    """A few pointings of a web."""
    many = web.many()
    rows = [[0] * many, [1] * many, [at % 2 for at in range(many)], [at // 2 % 2 for at in range(many)],
            [at * at // 3 % 2 for at in range(many)]]
    return [row for at, row in enumerate(rows) if row not in rows[:at]]


def arcs_of(web, pointing):
    """Each tie as the pair of points from which and to which it leads."""
    return [tie if lead == 0 else tie[::-1] for tie, lead in zip(web.ties(), pointing)]


def own_ins(web, pointing):
    """How many ties lead to each point, by the test's own count."""
    goals = [goal for _, goal in arcs_of(web, pointing)]
    return [goals.count(point) for point in web.points()]


def into(web, pointing, lot):
    """How many ties lead into a lot, by the test's own count."""
    return sum(origin not in lot and goal in lot for origin, goal in arcs_of(web, pointing))


def is_times_over(web, pointing, k):
    """Whether k ties, or more, lead into each lot, by the test's own count."""
    return all(into(web, pointing, lot) >= k for lot in some_lots(web))


def ends_of_way(web, pointing, numbers):
    """The first and the last point of a way of the pointing that isn't []; None where it is none."""
    arcs = arcs_of(web, pointing)
    points = [arcs[numbers[0]][0]]
    for number in numbers:
        if arcs[number][0] != points[-1]:
            return None
        points.append(arcs[number][1])
    return (points[0], points[-1]) if len(set(points)) == len(points) else None


def is_ring(web, pointing, numbers):
    """Whether it is a ring of the pointing."""
    arcs = [arcs_of(web, pointing)[number] for number in numbers]
    origins = [origin for origin, _ in arcs]
    return (len(arcs) > 1 and len(set(origins)) == len(origins)
            and [goal for _, goal in arcs] == origins[1:] + origins[:1])


def flipped(pointing, numbers):
    """The pointing with some ties the other way about."""
    return [1 - lead if at in numbers else lead for at, lead in enumerate(pointing)]


def distances(arcs, start):
    """A dict from each point to which arcs lead to how many they are."""
    far = {start: 0}
    for many in range(1, 10):
        wave = {goal for origin, goal in arcs if far.get(origin) == many - 1 and goal not in far}
        far.update((point, many) for point in wave)
    return far


def all_reach_all(web, pointing):
    """Whether each point reaches each, by the test's own search."""
    arcs = arcs_of(web, pointing)
    return all(set(distances(arcs, point)) == set(web.points()) for point in web.points())


def own_clusters(web, left_out=None):
    """The clusters, each a set, by joining sets tie by tie."""
    sets = [{point} for point in web.points()]
    for number, (first, second) in enumerate(web.ties()):
        if number != left_out:
            met = [one for one in sets if first in one or second in one]
            sets = [one for one in sets if one not in met] + [set().union(*met)]
    return sets


def crossed_by(web, lot):
    """The numbers of the ties that cross a lot."""
    return [number for number, tie in enumerate(web.ties()) if sum(end in lot for end in tie) == 1]


def refusal_of(deed, *handed):
    """The refusal's class and what the deed tells, one of them None."""
    try:
        return (None, deed(*handed))
    except ValueError as refusal:
        return (type(refusal), None)
