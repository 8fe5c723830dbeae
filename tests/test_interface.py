"""The interface: each name in its file, with as many arguments as it is told with."""

import importlib
import inspect
import unittest

INTERFACE = {
    "webs": {"Web": "points ties", "renamed": "web names", "reordered": "web order"},
    "webtexts": {"web_text": "web", "read_web": "text"},
    "lots": {"lot_of": "web points", "crossing": "web lot", "within": "web lot"},
    "clusters": {"clusters": "web", "bars": "web"},
    "ears": {"ears": "web", "reads_ears": "web thing"},
    "pointings": {"is_pointing": "web thing", "turned": "web pointing numbers", "pointing_text": "web pointing",
                  "read_pointing": "web text"},
    "reaching": {"way": "web pointing a b", "reached": "web pointing point", "shut_lot": "web pointing"},
    "pointed": {"pointed": "web", "by_ears": "web row"},
    "beforehand": {"pointed_with": "web fixed", "forced": "web fixed"},
    "turnings": {"fewest": "web pointing"},
    "ins": {"ins_of": "web pointing", "entering": "web pointing lot"},
    "meeting": {"pointing_of": "web ins", "all_ins": "web"},
    "over": {"times_over": "web pointing", "pointed_over": "web k"},
    "apart": {"ways_apart": "web pointing a b"},
    "rings": {"rings_between": "web one other"},
    "between": {"steps_between": "web one other k"},
    "counts": {"how_many": "web", "all_pointed": "web"},
    "farthest": {"far": "web pointing a b", "farthest": "web pointing"},
    "papers": {"reads_paper": "web number thing", "least_farthest": "web"},
    "errors": {"Parted": "lot", "Shut": "lot", "Thin": "lot", "Barred": "tie lot", "NoIns": "word part"},
}


class Interface(unittest.TestCase):

    def test_names_and_arguments(self):
        for file, names in INTERFACE.items():
            module = importlib.import_module(f"pointways.{file}")
            for name, arguments in names.items():
                found = inspect.signature(getattr(module, name)).parameters
                self.assertEqual(" ".join(found), arguments, (file, name))
                self.assertEqual([one.name for one in found.values() if one.default is not one.empty], [], (file, name))

    def test_methods_of_a_web(self):
        web = importlib.import_module("pointways.webs").Web(["a", "b"], [("a", "b")])
        self.assertEqual((web.points(), web.ties(), web.many()), (["a", "b"], [("a", "b")], 1))


if __name__ == "__main__":
    unittest.main()
