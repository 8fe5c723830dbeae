"""Things that several tests hand in."""

import copy


class Anything:
    """An object that says it is equal to everything."""

    def __eq__(self, other):
        return True

    def __hash__(self):
        return 0


class Like:
    """An object that says it is equal to one thing, and is none."""

    def __init__(self, thing):
        self.thing = thing

    def __eq__(self, other):
        return other == self.thing

    def __hash__(self):
        return hash(self.thing)


def no_lists():
    """Things that are neither a list nor a tuple."""
    return [None, True, False, 0, 1, -3, "", "a", "ab", "a b", b"ab", {}, {"a": "b"}, {0: 1, 1: 0},
            set(), {"a"}, frozenset(["a"]), range(2), object(), Anything(), iter(["a"]), len, int, NotImplemented]


def no_names():
    """Things that are no name."""
    return ["", "abcde", "abcdefgh", "A", "aB", "a1", "1", " ", "a b", " a", "a ", "a-b", "a;", "-", ".", "a_",
            "\n", "a\n", "\ta", "~", "{", "`", "@", "[",
            None, True, False, 0, 1, -1, 10 ** 17, b"a", [], ["a"], (), ("a",), ("a", "b"), {}, {"a": "a"},
            set(), {"a"}, object(), Anything(), Like("a"), Like("b"), Like("bb"), len, str, [[["a"]]], nested(20)]


def no_numbers():
    """Things that are no whole number."""
    return [None, True, False, "", "0", "1", "a", b"0", [], [0], (0,), {}, {0: 0}, set(), object(), Anything(),
            Like(0), Like(1), int]


def nested(deep):
    """A list within a list, so many deep."""
    thing = ["a"]
    for _ in range(deep):
        thing = [thing]
    return thing


def put(things, at, thing):
    """A copy of a list with another thing in one place."""
    other = list(things)
    other[at] = thing
    return other


def told(web):
    """All that a web tells of itself."""
    return (web.points(), web.ties(), web.many())


def refuses(test, error, deed, *handed):
    """The deed refuses what is handed in with just that error, and leaves it as it was."""
    before = [copy.deepcopy(thing) if isinstance(thing, (list, tuple, dict)) and is_plain(thing) else None
              for thing in handed]
    with test.subTest(handed=repr(handed)):
        with test.assertRaises(error) as caught:
            deed(*handed)
        test.assertIs(type(caught.exception), error)
        for thing, was in zip(handed, before):
            if was is not None:
                test.assertEqual(thing, was)


def is_plain(thing):
    """Whether a copy of it can be told apart by ==."""
    if isinstance(thing, (list, tuple)):
        return all(is_plain(one) for one in thing)
    if isinstance(thing, dict):
        return all(is_plain(one) for pair in thing.items() for one in pair)
    return thing is None or isinstance(thing, (bool, int, str, bytes))
