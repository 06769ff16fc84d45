"""What the general rules say of all functions and methods: nothing that is handed in is changed or kept."""

import inspect

from endlessplane.carpets import Carpet, plain
from endlessplane.closed import backwards
from endlessplane.errors import PlaneError
from endlessplane.floors import Floor
from endlessplane.lasting import left_paper
from endlessplane.likeness import motion_between
from endlessplane.live import Live
from endlessplane.meetpapers import meet_paper
from endlessplane.motions import Motion
from endlessplane.parting import least_paper, likeness_paper
from endlessplane.periods import Lattice
from endlessplane.regions import Region
from endlessplane.sieves import Sieve
from endlessplane.stands import rows_of_stands
from endlessplane.stretches import Spread, Stretch
from endlessplane.unlike import Trail
from endlessplane.walks import Walk
from endlessplane.windpapers import winding_paper, word_paper
from tests.helpers import CHESS, COLUMNS, PlaneCase
from tests.test_document import CLASSES, FUNCTIONS

BOX = Region([(0, 3, -1, 4)])
AROUND = Walk((0, 0), [("E", 3), ("N", 2), ("W", 3), ("S", 2)])
FLOOR = Floor(CHESS, [(BOX, plain(3)), (~BOX, COLUMNS)])
PAIRS = {
    "lines": (12, 18), "periods": (Lattice(4, 2, 3), Lattice(6, 1, 2)), "parting": (CHESS, COLUMNS),
    "laying": (CHESS, COLUMNS), "cuts": (BOX, Region([(0, 4, 0, 1)])), "floorparting": (FLOOR, Floor(CHESS)),
    "walkforms": (AROUND, Walk((0, 0), [("EN", 4)])),
    "meetings": (AROUND, Walk((0, 0), [("EN", 4)])), "meetpapers": (AROUND, Walk((0, 0), [("EN", 4)])),
    "likeness": (COLUMNS, Carpet(1, 0, 2, ["1", "0"])),
}
TEXTS = {"read_carpet": "carpet 2 1 1 01", "read_region": "region 0 * 1 2",
         "read_floor": "carpet 1 0 1 0\nregion\ncarpet 2 1 1 01",
         "read_walk": "walk 0 0 EN 7", "read_die": "die 1 2 3"}


def samples():
    """For the name of an argument a right value; lists are handed in as lists."""
    return {
        "a": 1, "b": 2, "r": 1, "p": 3, "number": 5, "stretch": Stretch(-4, 9), "cell": (1, 1), "step": (1, 0),
        "box": (0, 5, 0, 5), "goal": (2, 1), "shift": (1, 3), "colour": 1, "lattice": Lattice(2, 1, 1),
        "colour_of": lambda cell: sum(cell) % 2,
        "carpet": CHESS, "value": None, "colours": [1, 0, 2, 3, 4, 5, 6, 7, 8, 9],
        "table": [[0] * 10 for _ in range(10)],
        "carpets": [CHESS, COLUMNS], "clear": [0], "index": 1, "slabs": ((0, 1, ((0, 2),)),), "region": BOX, "y": 1,
        "n": 0, "regions": [BOX, Region([(None, 2, 1, 2)])], "block": ((0, 2, 0, 2), 1, 1), "floor": FLOOR, "level": 1,
        "word": "ENWS",
        "walk": AROUND, "moment": 3, "first": 1, "last": 5, "times": 3, "lead": 1, "ground": FLOOR, "corner": (0, 0),
        "die": (1, 2, 3),
        "face": 6, "start": (0, 0), "motion": Motion("left", (1, 2)), "sieve": Sieve([2, 3]), "d": 1, "rows": ["0"],
        "text": "EN", "boxes": [(0, 2, 0, 2), (1, None, 0, 1)], "ground_carpet": CHESS, "layers": [(BOX, COLUMNS)],
        "low": 0, "high": 5,
        "stretches": [Stretch(0, 3), Stretch(2, 9)], "by": 4, "parts": [("EN", 3), ("W", 2)], "turn": "left",
        "ks": [2, 3], "x": 7, "name": "ann", "deed": lambda live: live.names(), "line": "names",
    }


def arguments(module, name, names):
    """The dict of right arguments of a function."""
    told = samples()
    one, other = PAIRS.get(module, (None, None))
    if name == "spanned":
        one, other = (1, 2), (3, 4)
    elif name == "both_remainders":
        one, other = (2, 4), (0, 6)
    elif name in ("way", "are_even", "can_come"):
        other = (1, 3, 2)
    told.update({"one": one, "other": other})
    if name in TEXTS:
        told["text"] = TEXTS[name]
    if name == "shown_by":
        told["paper"] = meet_paper(*PAIRS["meetpapers"])
    if name == "plain":
        told["colour"] = 4
    return {key: told[key] for key in names}


def frozen(value):
    """All that a value tells, with all that its objects have, as nested tuples."""
    if isinstance(value, (list, tuple)):
        return (value.__class__.__name__, *[frozen(item) for item in value])
    if isinstance(value, dict):
        return ("dict", *[(frozen(key), frozen(item)) for key, item in value.items()])
    if hasattr(value, "__dict__") and not inspect.isroutine(value):
        return (value.__class__.__name__, frozen(vars(value)))
    return value if inspect.isroutine(value) else (value.__class__.__name__, repr(value))


def spoil(value):
    """Take all out of the lists and dicts of a value."""
    if isinstance(value, (list, tuple, dict)):
        for item in list(value.values()) if isinstance(value, dict) else value:
            spoil(item)
        if not isinstance(value, tuple):
            value.clear()


def plain_result(value):
    """A result; of a generator all that it gives."""
    return list(value) if inspect.isgenerator(value) else value


def names_of(wanted):
    """The names of the parameters of an entry of the interface, and those of them that are passed by name only."""
    words = [word.split("=")[0] for word in wanted.replace("(0, 0)", "0").split()]
    only = words[words.index("*") + 1:] if "*" in words else []
    return [word for word in words if word != "*"], only


class WholeTest(PlaneCase):
    def check(self, function, told, only):
        """Check that a call changes no argument, keeps no list and gives new ones, by position as by name."""
        ahead = frozen(list(told.values()))
        places = [told[name] for name in told if name not in only]
        first = plain_result(function(*places, **{name: told[name] for name in only}))
        answer = frozen(first)
        self.assertEqual(frozen(list(told.values())), ahead)
        spoil(first)
        self.assertEqual(frozen(list(told.values())), ahead)
        self.assertEqual(frozen(plain_result(function(**told))), answer)
        listed = {name: tuple(value) if isinstance(value, list) else value for name, value in told.items()}
        self.assertEqual(frozen(plain_result(function(**listed))), answer)

    def test_functions(self):
        many = 0
        for module, functions in FUNCTIONS.items():
            for name, wanted in functions.items():
                names, only = names_of(wanted)
                with self.subTest(name):
                    self.check(getattr(module, name), arguments(module.__name__.split(".")[1], name, names), only)
                    many += 1
        self.assertGreater(many, 150)

    def objects(self):
        """For each class of the interface an object."""
        return {"Stretch": Stretch(-3, 9), "Spread": Spread([Stretch(0, 4), Stretch(6)]), "Lattice": Lattice(4, 2, 3),
                "Carpet": Carpet(4, 2, 1, ["0110"]), "Region": BOX, "Floor": FLOOR, "Walk": AROUND,
                "Trail": Trail((0, 0), "EEW", 9), "Motion": Motion("swap", (3, 4)), "Sieve": Sieve([2, 3])}

    def test_methods(self):
        others = {"Stretch": Stretch(2, 5), "Sieve": Sieve([3])}
        many = 0
        for classes in CLASSES.values():
            for name, methods in classes.items():
                for method, wanted in methods.items():
                    if name not in self.objects() or wanted is None or method == "__init__":
                        continue
                    told = self.objects()[name]
                    names, only = names_of(wanted)
                    values = {**arguments("", method, names),
                              **{key: others.get(name) for key in names if key == "other"}}
                    with self.subTest(f"{name}.{method}"):
                        ahead = frozen(told)
                        self.check(getattr(told, method), values, only)
                        self.assertEqual(frozen(told), ahead)
                        many += 1
        self.assertGreater(many, 70)

    def test_objects_keep_no_lists(self):
        for made, lists in (
                (lambda told: Spread(told[0]), [[Stretch(0, 3), Stretch(5, 9)]]),
                (lambda told: Carpet(2, 0, 2, told[0]), [["01", "11"]]),
                (lambda told: Region(told[0]), [[(0, 1, 0, 1), (4, 5, 0, 1)]]), (lambda told: Floor(CHESS, told[0]),
                                                                                 [[(BOX, COLUMNS)]]),
                (lambda told: Walk((0, 0), told[0]), [[("EN", 4)]]), (lambda told: Sieve(told[0]), [[2, 3, 4]])):
            one = made(lists)
            ahead = frozen(one)
            lists[0].append(None)
            lists[0].clear()
            self.assertEqual(frozen(one), ahead)

    def test_operators_change_nothing(self):
        one, other = Region([(0, 5, 0, 5)]), Region([(3, None, 2, 9)])
        spread, wide = Spread([Stretch(0, 4)]), Spread([Stretch(2, 9), Stretch(20)])
        motion, walk = Motion("left", (1, 2)), Walk((0, 0), [("EN", 5)])
        ahead = frozen([one, other, spread, wide, motion, walk, FLOOR])
        for _ in range(2):
            one | other, one & other, one - other, ~one, one <= other, one == other, (1, 1) in one
            spread | wide, spread & wide, spread - wide, spread <= wide, spread == wide
            motion >> motion, motion == motion, walk == walk, FLOOR == FLOOR, len(FLOOR), (1, 3) in Lattice(2, 1, 1)
        self.assertEqual(frozen([one, other, spread, wide, motion, walk, FLOOR]), ahead)

    def test_live_floors_change_no_objects(self):
        live, walk = Live(CHESS), Walk((0, 0), [("EN", 5)])
        ahead = frozen([BOX, COLUMNS, CHESS, walk])
        now = live.now()
        live.lay(BOX, COLUMNS)
        live.put("ann", (0, 0), (1, 2, 3))
        told = live.walk_of("ann")
        live.go("ann", "EN", 5)
        self.same((len(now), len(live.now()), told, live.walk_of("ann")), (0, 1, Walk((0, 0)), walk))
        self.assertEqual(frozen([BOX, COLUMNS, CHESS, walk]), ahead)

    def test_all_errors_are_of_the_package(self):
        for value in (None, "", [], object()):
            for call in (lambda: Carpet(value, 0, 1, ["0"]), lambda: Region(value or None), lambda: Walk(value),
                         lambda: Motion(value),
                         lambda: Sieve(value or None), lambda: Trail(value, "E", 1), lambda: Floor(value),
                         lambda: Live(value)):
                with self.assertRaises(PlaneError):
                    call()

    def test_papers_of_all_kinds(self):
        # What a paper holds is tuples and dicts of integers and strings, whoever asks for it.
        papers = [likeness_paper(CHESS, COLUMNS), least_paper(CHESS), rows_of_stands(AROUND, BOX),
                  meet_paper(AROUND, backwards(AROUND)),
                  word_paper("ENWS"), winding_paper(AROUND, (1, 1)), left_paper((0, 0), "EN", 3, (1, 1), (1, 2, 3))]
        for paper in papers:
            self.assertIsInstance(paper, tuple)
        self.same(motion_between(COLUMNS, COLUMNS), Motion("stay"))
