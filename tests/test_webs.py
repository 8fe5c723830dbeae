"""Webs, renamed and reordered: promises 5 and 7, and 2 and 3 where they bear on them."""

import copy
import itertools
import unittest

from pointways.errors import NoNumbers, NoWeb
from pointways.webs import Web, renamed, reordered
from things import Like, no_lists, no_names, no_numbers, put, refuses, told

POINTS = ["a", "bb", "ccc"]
TIES = [("a", "bb"), ("ccc", "bb"), ("bb", "a")]


def web():
    return Web(POINTS, TIES)


class Made(unittest.TestCase):

    def test_an_ordinary_web(self):
        self.assertEqual(told(web()), (POINTS, TIES, 3))

    def test_the_kinds_told(self):
        for one in [web(), Web(tuple(POINTS), tuple(TIES)), Web(POINTS, [list(tie) for tie in TIES]), Web(["a"], [])]:
            self.assertIs(type(one.points()), list)
            self.assertIs(type(one.ties()), list)
            self.assertIs(type(one.many()), int)
            for tie in one.ties():
                self.assertIs(type(tie), tuple)
                self.assertEqual(len(tie), 2)

    def test_one_point_and_no_tie(self):
        for points, ties in [(["a"], []), (("a",), ()), (["a"], ()), (("a",), [])]:
            self.assertEqual(told(Web(points, ties)), (["a"], [], 0))

    def test_points_without_ties(self):
        self.assertEqual(told(Web(["b", "a"], [])), (["b", "a"], [], 0))

    def test_nine_points_and_twenty_ties(self):
        points = list("ihgfedcba")
        ties = list(itertools.combinations(points, 2))[:20]
        self.assertEqual(told(Web(points, ties)), (points, ties, 20))

    def test_twenty_ties_between_two_points(self):
        ties = [("a", "b"), ("b", "a")] * 10
        self.assertEqual(told(Web(["a", "b"], ties)), (["a", "b"], ties, 20))

    def test_two_ties_between_the_same_points_are_two(self):
        alike = [("a", "b"), ("a", "b")]
        self.assertEqual(told(Web(["a", "b"], alike)), (["a", "b"], alike, 2))
        about = [("a", "b"), ("b", "a")]
        self.assertEqual(told(Web(["a", "b"], about)), (["a", "b"], about, 2))

    def test_lists_and_tuples_are_taken_alike(self):
        pairs = [list(tie) for tie in TIES]
        for points in [POINTS, tuple(POINTS)]:
            for ties in [TIES, tuple(TIES), pairs, tuple(pairs), [pairs[0], TIES[1], pairs[2]]]:
                self.assertEqual(told(Web(points, ties)), (POINTS, TIES, 3))

    def test_names_of_one_to_four_letters(self):
        points = ["z", "az", "zza", "zzzz", "aaaa", "a"]
        ties = [("z", "zzzz"), ("aaaa", "a")]
        self.assertEqual(told(Web(points, ties)), (points, ties, 2))

    def test_each_letter_is_a_name(self):
        for letter in "abcdefghijklmnopqrstuvwxyz":
            self.assertEqual(Web([letter], []).points(), [letter])


class Refused(unittest.TestCase):

    def test_points_too_few_or_too_many(self):
        refuses(self, NoWeb, Web, [], [])
        refuses(self, NoWeb, Web, (), ())
        refuses(self, NoWeb, Web, list("abcdefghij"), [])
        refuses(self, NoWeb, Web, list("abcdefghijklmnopqrstuvwxyz"), [])

    def test_a_point_twice(self):
        refuses(self, NoWeb, Web, ["a", "a"], [])
        refuses(self, NoWeb, Web, ["a", "b", "c", "a"], [("a", "b")])
        refuses(self, NoWeb, Web, ("a", "b", "b"), [("a", "b")])

    def test_ties_too_many(self):
        refuses(self, NoWeb, Web, ["a", "b"], [("a", "b")] * 21)
        refuses(self, NoWeb, Web, ["a", "b"], (("a", "b"),) * 40)

    def test_a_tie_of_a_point_with_itself(self):
        refuses(self, NoWeb, Web, POINTS, [("a", "a")])
        refuses(self, NoWeb, Web, POINTS, TIES + [["bb", "bb"]])
        refuses(self, NoWeb, Web, ["a"], [("a", "a")])

    def test_a_tie_with_a_name_that_is_no_point(self):
        refuses(self, NoWeb, Web, POINTS, [("a", "b")])
        refuses(self, NoWeb, Web, POINTS, TIES + [("d", "a")])
        refuses(self, NoWeb, Web, POINTS, [("x", "y")])
        refuses(self, NoWeb, Web, ["a"], [("a", "b")])

    def test_a_tie_of_other_than_two_things(self):
        for tie in [(), [], ("a",), ["a"], ("a", "bb", "ccc"), ["a", "bb", "a"], ("a", "bb", "a", "bb")]:
            refuses(self, NoWeb, Web, POINTS, [tie])
            refuses(self, NoWeb, Web, POINTS, TIES + [tie])

    def test_a_thing_that_is_no_name_among_the_points(self):
        for thing in no_names():
            refuses(self, NoWeb, Web, [thing], [])
            for at in range(3):
                refuses(self, NoWeb, Web, put(POINTS, at, thing), [])
                refuses(self, NoWeb, Web, tuple(put(POINTS, at, thing)), TIES)

    def test_a_thing_that_is_no_name_at_both_places(self):
        for thing in no_names():
            refuses(self, NoWeb, Web, ["a", thing], [("a", thing)])

    def test_a_thing_that_is_no_name_in_a_tie(self):
        for thing in no_names():
            for tie in [("a", thing), (thing, "a"), [thing, thing]]:
                refuses(self, NoWeb, Web, POINTS, [tie])
                refuses(self, NoWeb, Web, POINTS, put(TIES, 1, tie))

    def test_what_is_no_list(self):
        for thing in no_lists():
            refuses(self, NoWeb, Web, thing, [])
            refuses(self, NoWeb, Web, thing, thing)
            refuses(self, NoWeb, Web, ["a", "b"], thing)
            for at in range(3):
                refuses(self, NoWeb, Web, ["a", "b"], put([("a", "b")] * 3, at, thing))

    def test_a_text_or_a_dict_for_a_list(self):
        refuses(self, NoWeb, Web, "ab", [("a", "b")])
        refuses(self, NoWeb, Web, {"a": 1, "b": 2}, [("a", "b")])
        refuses(self, NoWeb, Web, ["a", "b"], {("a", "b"): 1})
        refuses(self, NoWeb, Web, ["a", "b"], ["ab"])
        refuses(self, NoWeb, Web, ["a", "b"], [{"a": 1, "b": 2}])
        refuses(self, NoWeb, Web, ["a", "b"], "")
        refuses(self, NoWeb, Web, ["a", "b"], {})

    def test_points_and_ties_exchanged(self):
        refuses(self, NoWeb, Web, TIES, POINTS)


class Kept(unittest.TestCase):

    def test_lists_changed_behind_the_call(self):
        points, ties = ["a", "b", "c"], [["a", "b"], ["b", "c"]]
        one = Web(points, ties)
        before = copy.deepcopy(told(one))
        ties[0][0] = "c"
        ties[1].append("a")
        ties.append(["c", "a"])
        points[0] = "z"
        points.append("y")
        self.assertEqual(told(one), before)
        points.clear()
        ties.clear()
        self.assertEqual(told(one), before)

    def test_what_is_handed_in_stays(self):
        points, ties = ["a", "b", "c"], [["a", "b"], ("b", "c")]
        Web(points, ties)
        self.assertEqual((points, ties), (["a", "b", "c"], [["a", "b"], ("b", "c")]))

    def test_what_is_told_is_its_asker_s_own(self):
        one = web()
        one.points().append("z")
        one.points()[0] = "z"
        one.ties().clear()
        one.ties()[0] = ("z", "z")
        self.assertEqual(told(one), (POINTS, TIES, 3))

    def test_asked_again_the_same_is_told(self):
        one = web()
        self.assertEqual(told(one), told(one))
        self.assertIsNot(one.points(), one.points())
        self.assertIsNot(one.ties(), one.ties())

    def test_an_elder_web_stays(self):
        elder = web()
        names, order = {"a": "x", "bb": "y", "ccc": "z"}, [2, 0, 1]
        younger = [renamed(elder, names), reordered(elder, order), Web(elder.points(), elder.ties())]
        for one in younger:
            one.points().reverse()
            one.ties().pop()
        self.assertEqual(told(elder), (POINTS, TIES, 3))
        elder.points().clear()
        elder.ties().clear()
        self.assertEqual([one.many() for one in younger], [3, 3, 3])
        self.assertEqual([len(one.points()) for one in younger], [3, 3, 3])
        self.assertEqual([len(one.ties()) for one in younger], [3, 3, 3])


class Renamed(unittest.TestCase):

    def test_all_new_names(self):
        one = web()
        other = renamed(one, {"ccc": "z", "a": "xxxx", "bb": "y"})
        self.assertIsInstance(other, Web)
        self.assertEqual(told(other), (["xxxx", "y", "z"], [("xxxx", "y"), ("z", "y"), ("y", "xxxx")], 3))
        self.assertEqual(told(one), (POINTS, TIES, 3))

    def test_names_exchanged(self):
        one = web()
        other = renamed(one, {"a": "bb", "bb": "ccc", "ccc": "a"})
        self.assertEqual(told(other), (["bb", "ccc", "a"], [("bb", "ccc"), ("a", "ccc"), ("ccc", "bb")], 3))
        self.assertEqual(told(one), (POINTS, TIES, 3))

    def test_some_names_as_they_were(self):
        self.assertEqual(told(renamed(web(), {"a": "a", "bb": "bb", "ccc": "ccc"})), (POINTS, TIES, 3))
        self.assertEqual(renamed(web(), {"a": "a", "bb": "c", "ccc": "bb"}).points(), ["a", "c", "bb"])

    def test_one_point(self):
        self.assertEqual(told(renamed(Web(["a"], []), {"a": "b"})), (["b"], [], 0))

    def test_the_dict_stays_and_may_be_changed(self):
        names = {"a": "x", "bb": "y", "ccc": "z"}
        other = renamed(web(), names)
        self.assertEqual(names, {"a": "x", "bb": "y", "ccc": "z"})
        names["a"] = "q"
        names.clear()
        self.assertEqual(told(other), (["x", "y", "z"], [("x", "y"), ("z", "y"), ("y", "x")], 3))

    def test_a_point_without_a_name(self):
        refuses(self, NoWeb, renamed, web(), {})
        refuses(self, NoWeb, renamed, web(), {"a": "x", "bb": "y"})
        refuses(self, NoWeb, renamed, web(), {"a": "x", "bb": "y", "d": "z"})

    def test_a_key_that_is_no_point(self):
        names = {"a": "x", "bb": "y", "ccc": "z"}
        for key in ["d", "", "A", 0, 1, None, ("a",), b"a", object()]:
            refuses(self, NoWeb, renamed, web(), {**names, key: "w"})
        refuses(self, NoWeb, renamed, Web(["a"], []), {"b": "a"})
        refuses(self, NoWeb, renamed, Web(["a"], []), {Like("a"): "b"})

    def test_two_names_alike(self):
        refuses(self, NoWeb, renamed, web(), {"a": "x", "bb": "y", "ccc": "x"})
        refuses(self, NoWeb, renamed, web(), {"a": "a", "bb": "a", "ccc": "c"})
        refuses(self, NoWeb, renamed, Web(["a", "b"], []), {"a": "x", "b": "x"})

    def test_a_thing_that_is_no_name(self):
        for thing in no_names():
            for point in POINTS:
                refuses(self, NoWeb, renamed, web(), {"a": "x", "bb": "y", "ccc": "z", point: thing})
            refuses(self, NoWeb, renamed, Web(["a"], []), {"a": thing})

    def test_what_is_no_dict(self):
        things = [thing for thing in no_lists() if not isinstance(thing, dict)]
        things += [[], (), ["x", "y", "z"], [("a", "x"), ("bb", "y"), ("ccc", "z")], (("a", "x"),), POINTS]
        for thing in things:
            refuses(self, NoWeb, renamed, web(), thing)
            refuses(self, NoWeb, renamed, Web(["a"], []), thing)


class Reordered(unittest.TestCase):

    def test_the_order_told(self):
        one = web()
        other = reordered(one, [2, 0, 1])
        self.assertIsInstance(other, Web)
        self.assertEqual(told(other), (POINTS, [TIES[2], TIES[0], TIES[1]], 3))
        self.assertEqual(told(one), (POINTS, TIES, 3))

    def test_all_orders_of_three(self):
        for order in itertools.permutations(range(3)):
            for handed in [order, list(order)]:
                self.assertEqual(reordered(web(), handed).ties(), [TIES[number] for number in order])

    def test_the_identical_order(self):
        self.assertEqual(told(reordered(web(), [0, 1, 2])), (POINTS, TIES, 3))

    def test_twenty_ties(self):
        points = list("abcdefghi")
        ties = list(itertools.combinations(points, 2))[:20]
        self.assertEqual(reordered(Web(points, ties), list(range(19, -1, -1))).ties(), ties[::-1])

    def test_without_ties(self):
        for order in [[], ()]:
            self.assertEqual(told(reordered(Web(["b", "a"], []), order)), (["b", "a"], [], 0))

    def test_the_order_stays_and_may_be_changed(self):
        order = [1, 2, 0]
        other = reordered(web(), order)
        self.assertEqual(order, [1, 2, 0])
        order.sort()
        self.assertEqual(other.ties(), [TIES[1], TIES[2], TIES[0]])

    def test_wrong_numbers(self):
        for order in [[], [0], [0, 1], [1, 2], [0, 1, 1], [0, 0, 2], [0, 0, 1, 2], [0, 1, 2, 2], [0, 1, 3], [1, 2, 3],
                      [0, 1, 2, 3], [-1, 0, 1], [0, 1, -1], [-3, -2, -1], [0, 1, 10 ** 17]]:
            refuses(self, NoNumbers, reordered, web(), order)
            refuses(self, NoNumbers, reordered, web(), tuple(order))

    def test_numbers_where_there_are_no_ties(self):
        for order in [[0], [1], [-1], [None], [[]], [False]]:
            refuses(self, NoNumbers, reordered, Web(["a", "b"], []), order)

    def test_true_and_false_are_no_numbers(self):
        for order in [[False, 1, 2], [0, True, 2], [False, True, 2], (2, True, False)]:
            refuses(self, NoNumbers, reordered, web(), order)
        refuses(self, NoNumbers, reordered, Web(["a", "b"], [("a", "b")]), [False])

    def test_a_thing_that_is_no_number(self):
        for thing in no_numbers():
            for at in range(3):
                refuses(self, NoNumbers, reordered, web(), put([0, 1, 2], at, thing))
                refuses(self, NoNumbers, reordered, web(), put([2, 1, 0], at, thing))
            refuses(self, NoNumbers, reordered, web(), [0, 1, 2, thing])
            refuses(self, NoNumbers, reordered, web(), [thing])

    def test_what_is_no_list(self):
        for thing in no_lists() + ["012", "0 1 2", {0: 0, 1: 1, 2: 2}, range(3), {0, 1, 2}]:
            refuses(self, NoNumbers, reordered, web(), thing)
            refuses(self, NoNumbers, reordered, Web(["a"], []), thing)


if __name__ == "__main__":
    unittest.main()
