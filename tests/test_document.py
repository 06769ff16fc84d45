"""The examples of the document, and what its general rules say of all functions."""

import doctest
import inspect
import os
import unittest

from endlessplane import carpets, errors, lines, parting, periods, stretches
from endlessplane.carpets import Carpet
from endlessplane.lines import both_remainders, in_box, remainder_of
from endlessplane.stretches import Spread, Stretch

FUNCTIONS = {
    lines: {
        "greatest_divisor": "one other", "least_multiple": "one other", "in_stretch": "a b stretch",
        "in_box": "cell step box", "on_number": "a b number", "on_cell": "cell step goal",
        "remainder_of": "a b r p", "both_remainders": "one other",
    },
    periods: {
        "is_shift": "value", "spanned": "one other", "common_lattice": "one other", "joined_lattice": "one other",
    },
    carpets: {"plain": "colour", "woven": "lattice colour_of"},
    parting: {
        "parting_cell": "one other", "breaking_cell": "carpet shift", "likeness_paper": "one other",
        "shows_alike": "one other value", "shows_parted": "one other value", "least_paper": "carpet",
        "shows_least": "carpet lattice value",
    },
}

MEMBERS = {"count": "r=0 p=1", "first": "r=0 p=1", "final": "r=0 p=1", "nth": "n r=0 p=1", "below": "number r=0 p=1"}

CLASSES = {
    stretches: {
        "Stretch": {
            "__init__": "low=None high=None", "holds": "number", "moved": "by", "turned": "", "common": "other",
            "__le__": None, "__eq__": None, **MEMBERS,
        },
        "Spread": {
            "__init__": "stretches=()", "told": "", "all_but": "", "holds": "number", "moved": "by", "turned": "",
            "is_endless": "", "bounds": "", "__or__": None, "__and__": None, "__sub__": None, "__le__": None,
            "__eq__": None, **MEMBERS,
        },
    },
    periods: {
        "Lattice": {
            "__init__": "a b d", "area": "", "place": "cell", "order": "shift", "places": "", "__contains__": None,
            "__le__": None, "__eq__": None,
        },
    },
    carpets: {
        "Carpet": {
            "__init__": "a b d rows", "colour": "cell", "lattice": "", "least": "", "normal": "", "in_normal": "",
            "shares": "", "moved_by": "shift", "is_period": "shift", "__eq__": None,
        },
    },
    errors: {
        "BadPart": {"__init__": "part"}, "BadNumber": {"__init__": "number"}, "BadIndex": {"__init__": "index"},
        "BadName": {"__init__": "name"}, "NotSo": {"__init__": "word"}, "BadText": {"__init__": "line"},
        "TooMany": {"__init__": "limit"}, "NothingToUndo": {"__init__": "name"},
    },
}


def parameters(function):
    """The names of the parameters, with their default values."""
    told = []
    for parameter in inspect.signature(function).parameters.values():
        no_default = parameter.default is inspect.Parameter.empty
        told.append(parameter.name if no_default else f"{parameter.name}={parameter.default}")
    return " ".join(told)


class ExamplesTest(unittest.TestCase):
    def test_whole_numbers(self):
        some = Spread([Stretch(4, 6), Stretch(0, 4), Stretch(9)])
        way = in_box((-7, 5), (2, -1), (0, 10, None, None))
        self.assertEqual(
            ([(one.low, one.high) for one in some.told()], some.nth(3, 1, 2), some.below(12, 0, 3),
             (way.low, way.high), remainder_of(1, 6, 3, 4), both_remainders((2, 4), (0, 6))),
            ([(0, 6), (9, None)], 9, 3, (4, 9), (1, 2), (6, 12)))

    def test_carpets(self):
        chess = Carpet(4, 0, 2, ["0101", "1010"])
        self.assertEqual(
            (chess.normal(), chess.colour((-1, 10 ** 30)), chess.is_period((1, 3)),
             chess == Carpet(2, 1, 1, ["01"])),
            ((2, 1, 1, ('01',)), 1, True, True))


    def test_readme(self):
        folder = os.path.dirname(os.path.dirname(os.path.abspath(__file__)))
        failed, tried = doctest.testfile(os.path.join(folder, "README.md"), module_relative=False)
        self.assertEqual(failed, 0)
        self.assertGreater(tried, 0)


class InterfaceTest(unittest.TestCase):
    def test_functions(self):
        for module, functions in FUNCTIONS.items():
            for name, wanted in functions.items():
                function = vars(module)[name]
                self.assertEqual(function.__module__, module.__name__)
                self.assertEqual(parameters(function), wanted, name)

    def test_classes(self):
        for module, classes in CLASSES.items():
            for name, methods in classes.items():
                told = vars(module)[name]
                self.assertEqual(told.__module__, module.__name__)
                for method, wanted in methods.items():
                    self.assertIn(method, vars(told), name)
                    if wanted is not None:
                        self.assertEqual(parameters(vars(told)[method]), ("self " + wanted).strip(), name)


if __name__ == "__main__":
    unittest.main()
