"""The refusals: their classes, and the values that they bear."""

import unittest

from pointways import errors

PLAIN = ["NoWeb", "NoText", "NoNumbers", "NoLot", "NoPoint", "NoPointing", "NoEars", "NoFixed", "NoNumber",
         "Unlike", "NotOver", "TooMuch"]
OF_A_LOT = ["Parted", "Shut", "Thin"]
ALL = PLAIN + OF_A_LOT + ["Barred", "NoIns"]


def made(name):
    """One refusal of each class."""
    if name in PLAIN:
        return getattr(errors, name)()
    if name in OF_A_LOT:
        return getattr(errors, name)(["a", "b"])
    if name == "Barred":
        return errors.Barred(3, ["a", "b"])
    return errors.NoIns("within", ["a", "b"])


class Classes(unittest.TestCase):

    def test_there_are_seventeen(self):
        self.assertEqual(len(set(ALL)), 17)
        for name in ALL:
            self.assertEqual(getattr(errors, name).__name__, name)

    def test_a_point_error_is_a_value_error(self):
        self.assertEqual(errors.PointError.__bases__, (ValueError,))

    def test_each_stands_straight_under_point_error(self):
        for name in ALL:
            with self.subTest(name=name):
                self.assertEqual(getattr(errors, name).__bases__, (errors.PointError,))

    def test_an_object_is_of_none_of_the_others(self):
        for name in ALL:
            thing = made(name)
            self.assertIsInstance(thing, errors.PointError)
            self.assertIsInstance(thing, ValueError)
            self.assertEqual([other for other in ALL if isinstance(thing, getattr(errors, other))], [name])

    def test_each_is_raised_and_taken(self):
        for name in ALL:
            with self.assertRaises(getattr(errors, name)):
                raise made(name)
            with self.assertRaises(errors.PointError):
                raise made(name)


class Values(unittest.TestCase):

    def test_made_of_nothing_or_of_a_text(self):
        for name in PLAIN:
            with self.subTest(name=name):
                getattr(errors, name)()
                getattr(errors, name)("")
                self.assertEqual(str(getattr(errors, name)("some words")), "some words")

    def test_made_of_a_lot(self):
        for name in OF_A_LOT:
            with self.subTest(name=name):
                self.assertEqual(getattr(errors, name)(["b", "a"]).lot, ["b", "a"])
                self.assertEqual(getattr(errors, name)(("a",)).lot, ["a"])

    def test_barred(self):
        thing = errors.Barred(7, ["c", "d"])
        self.assertEqual((thing.tie, thing.lot), (7, ["c", "d"]))
        self.assertEqual(errors.Barred(0, ("c",)).lot, ["c"])

    def test_no_ins(self):
        for word in ["within", "touching"]:
            thing = errors.NoIns(word, ["c", "d"])
            self.assertEqual((thing.word, thing.part), (word, ["c", "d"]))
        self.assertEqual(errors.NoIns("within", ("c",)).part, ["c"])

    def test_each_object_has_values_of_its_own(self):
        one, other = errors.Barred(1, ["a"]), errors.Barred(2, ["b"])
        self.assertEqual((one.tie, one.lot, other.tie, other.lot), (1, ["a"], 2, ["b"]))

    def test_the_list_may_be_changed_behind_the_call(self):
        for name in OF_A_LOT:
            lot = ["a", "b"]
            thing = getattr(errors, name)(lot)
            words = str(thing)
            lot.append("c")
            self.assertEqual((thing.lot, str(thing)), (["a", "b"], words))
        lot = ["a"]
        barred, no_ins = errors.Barred(0, lot), errors.NoIns("within", lot)
        lot.clear()
        self.assertEqual((barred.lot, no_ins.part), (["a"], ["a"]))

    def test_the_value_is_its_asker_s_own(self):
        lot = ["a"]
        for thing in [errors.Parted(lot), errors.Shut(lot), errors.Thin(lot), errors.Barred(0, lot)]:
            thing.lot.append("z")
        errors.NoIns("within", lot).part.append("z")
        self.assertEqual(lot, ["a"])


if __name__ == "__main__":
    unittest.main()
