"""What several of the tests need."""

import itertools
import random
import unittest

from endlessplane.carpets import Carpet
from endlessplane.cuts import cells_of
from endlessplane.errors import BadNumber, BadPart, NotSo
from endlessplane.floors import Floor
from endlessplane.periods import Lattice
from endlessplane.regions import Region
from endlessplane.walks import Walk

# What is no integer, for arguments that ask for one.
NO_INTEGERS = [None, True, False, "1", "", (1,), [1], {}, b"1", object()]

# What is no tuple of two integers, for arguments that ask for a cell, a step or a shift.
NO_PAIRS = [None, True, 5, "00", [0, 0], (), (0,), (0, 0, 0), (True, 0), (0, False), ("0", 0), (0, None), {0: 0, 1: 1}]

# Values that no checker may take for a paper.
NO_PAPERS = [
    None, True, False, 0, 1, -1, "", "alike", "parted", "least", b"alike", (), [], {}, object(), (None,), ("alike",),
    ("parted",), ("least",), ((),), (1, 2), ([], {}), ({}, []), ("", "", "", "", ""), (0, 0, 0, 0, 0),
]

GREAT = 10 ** 59

CHESS = Carpet(2, 1, 1, ["01"])
COLUMNS = Carpet(2, 0, 1, ["01"])

# What is no integer of 0 or more, no colour, no Carpet, no Region, no Floor, no Walk, no word.
NO_NUMBERS = NO_INTEGERS + [-1, -GREAT]
NO_COLOURS = NO_NUMBERS + [10, GREAT]
NO_CARPETS = [None, True, 5, "01", (2, 1, 1, ("01",)), ["01"], Lattice(2, 1, 1), Region()]
NO_REGIONS = [None, True, 5, "", (), [], (0, 1, 0, 1), [(0, 1, 0, 1)], ((0, 1, ((0, 1),)),), {}, Lattice(2, 1, 1)]

NO_GROUNDS = [None, True, 5, "01", (), [], {}, Region(), Walk((0, 0)), [Floor(Carpet(1, 0, 1, ["0"]))]]
NO_FLOORS = NO_GROUNDS + [Carpet(2, 1, 1, ["01"])]
NO_WALKS = [None, True, 5, "EN", (0, 0), ((0, 0), ()), [("EN", 1)], {}, Region(), Floor(Carpet(1, 0, 1, ["0"]))]
NO_WORDS = [None, True, 5, "", "e", "EX", "E ", "EN\n", "E" * 25, b"EN", ["E"], ("E", "N"), {}, object()]

NO_DICE = [None, True, 5, "123", [1, 2, 3], (), (1, 2), (1, 2, 3, 4), (1, 2, 1), (1, 1, 2), (2, 1, 1), (1, 2, 5),
           (1, 6, 2),
           (3, 2, 4), (0, 2, 3), (1, 7, 3), (True, 2, 3), (1, 2, "3"), (1, 2, None), {1: 1, 2: 2, 3: 3}, Region()]
NO_TEXTS = [None, True, 5, "e", "EX", "E ", "EN\n", "E" * 61, b"EN", ["E"], ("E", "N"), (), {}, object()]
NO_FACES = NO_NUMBERS + [0, 7, GREAT]
NO_MOTIONS = [None, True, 5, "left", ("left", (0, 0)), (0, 0), [], {}, Region(), CHESS]
NO_SIEVES = [None, True, 5, "23", [2, 3], (2, 3), (), [], {}, Region(), CHESS]

# For the name of an argument: the error of what does not fit, its attribute, the word (None: the value), such values.
WRONG = {
    "carpet": (BadPart, "part", "carpet", NO_CARPETS),
    "region": (BadPart, "part", "region", NO_REGIONS),
    "colour": (BadNumber, "number", None, NO_COLOURS),
    "cell": (BadPart, "part", "cell", NO_PAIRS),
    "n": (BadNumber, "number", None, NO_NUMBERS),
    "y": (BadNumber, "number", None, NO_INTEGERS),
    "floor": (BadPart, "part", "floor", NO_FLOORS),
    "ground": (BadPart, "part", "ground", NO_GROUNDS),
    "walk": (BadPart, "part", "walk", NO_WALKS),
    "word": (BadPart, "part", "word", NO_WORDS),
    "times": (BadNumber, "number", None, NO_NUMBERS),
    "moment": (BadNumber, "number", None, NO_NUMBERS),
    "lead": (BadNumber, "number", None, NO_INTEGERS),
    "corner": (BadPart, "part", "corner", NO_PAIRS),
    "die": (BadPart, "part", "die", NO_DICE),
    "text": (BadPart, "part", "word", NO_TEXTS),
    "face": (BadNumber, "number", None, NO_FACES),
    "sieve": (BadPart, "part", "sieve", NO_SIEVES),
    "motion": (BadPart, "part", "motion", NO_MOTIONS),
    "told region": (BadPart, "part", "region", NO_REGIONS[1:]),
    "told carpet": (BadPart, "part", "carpet", NO_CARPETS[1:]),
    "no colour": (BadNumber, "number", None, [0, 9] + NO_COLOURS[1:]),
}

# The least y of 1 or more such that (0, y) is a period is 144 for both; (0, 1) leads to a neighbour in the first one.
SLANTED = Carpet(144, 1, 1, ["0" * 143 + "1"])
SPARSE = Carpet(12, 5, 12, ["0" * 12] * 11 + ["0" * 11 + "1"])

THREE = Region([(0, 3, 0, 3)])

# Boxes far from one another, and a hole.
FAR = Region([(-10 ** 30, 10 ** 30, 0, 10 ** 29), (3, 5, 10 ** 29, 10 ** 31), (-9, 10 ** 28, -10 ** 30, -5)])
FAR = FAR - Region([(-500, 700, 20, 10 ** 20)])

# The ends of regions by chance lie from -8 to 8, so a row or column that has -10 or 10 has no end there.
WINDOW = range(-10, 11)
CELLS = [(x, y) for y in WINDOW for x in WINDOW]


def some_carpets(seed, many, sizes, signs="0001"):
    """Carpets by chance, with a and d of these sizes."""
    chance = random.Random(seed)
    carpets = []
    for _ in range(many):
        a, d = chance.choice(sizes), chance.choice(sizes)
        rows = ["".join(chance.choice(signs) for _ in range(a)) for _ in range(d)]
        carpets.append(Carpet(a, chance.randrange(a), d, rows))
    return carpets


def some_span(chance, ends):
    """Two ends by chance; each is missing as often as the share of None in these."""
    while True:
        low, high = [chance.choice(ends + list(range(-8, 9))) for _ in range(2)]
        if low is None or high is None or low < high:
            return low, high


def some_boxes(chance, many, ends=()):
    """Up to so many boxes by chance, with ends if no other ones are given beside these."""
    return [some_span(chance, list(ends)) + some_span(chance, list(ends)) for _ in range(chance.randrange(many + 1))]


def some_regions(seed, many, ends=()):
    """Regions by chance, some of them put together of others."""
    chance = random.Random(seed)
    regions = []
    for _ in range(many):
        one, other = Region(some_boxes(chance, 5, ends)), Region(some_boxes(chance, 4, ends))
        regions.append(chance.choice([one, one | other, one & other, one - other]))
    return regions


def some_floors(seed, many, ends=(), signs="001", sizes=(1, 2, 3)):
    """Floors by chance, without layers and with up to six of them."""
    chance = random.Random(seed)
    carpets = some_carpets(seed, 7 * many, sizes, signs)
    floors = []
    for index in range(many):
        layers = [(Region(some_boxes(chance, 3, ends)), carpets.pop()) for _ in range(index % 7)]
        floors.append(Floor(carpets.pop(), layers))
    return floors


def some_words(seed, many, most, letters="ENWS"):
    """Words by chance of up to so many letters."""
    chance = random.Random(seed)
    return ["".join(chance.choice(letters) for _ in range(chance.randrange(1, most + 1))) for _ in range(many)]


def some_walks(seed, many, parts=6, letters=5, times=4, steps="ENWS"):
    """Walks by chance, with up to so many parts, letters of a word, which are of these steps, and times."""
    chance = random.Random(seed)
    walks = []
    for index in range(many):
        words = some_words(seed + 1000 * index, chance.randrange(parts + 1), letters, steps)
        cell = (chance.randrange(-4, 5), chance.randrange(-4, 5))
        walks.append(Walk(cell, [(word, chance.randrange(times + 1)) for word in words]))
    return walks


def cells_walked(walk):
    """The list of the cells at which a walk is at its moments, step by step."""
    x, y = walk.cell
    cells = [(x, y)]
    for word, times in walk.parts:
        for letter in word * times:
            x, y = x + (letter == "E") - (letter == "W"), y + (letter == "N") - (letter == "S")
            cells.append((x, y))
    return cells


def moments_in(rows):
    """The list of all moments of rows (first, gap, many), ascending."""
    return sorted(first + gap * index for first, gap, many in rows for index in range(many))


def every_word(letters):
    """All words of so many letters."""
    return ["".join(told) for told in itertools.product("ENWS", repeat=letters)]


def every_die():
    """All dice, ascending."""
    faces = itertools.product(range(1, 7), repeat=3)
    return [die for die in faces if len({min(face, 7 - face) for face in die}) == 3]


def cell_region(cell):
    """The region of one cell."""
    return Region([(cell[0], cell[0] + 1, cell[1], cell[1] + 1)])


def stairs():
    """A region of 180 boxes, two in every other row."""
    region = Region()
    for at in range(90):
        region = region | Region([(at, 3 * at + 1, 2 * at, 2 * at + 1), (-at - 2, -1, 2 * at, 2 * at + 1)])
    return region


def cells_with(carpet, region, colour):
    """The cells of the colour in a finite region, by y, then x."""
    return [cell for cell in cells_of(region) if carpet.colour(cell) == colour]


def box_has(box, cell):
    """Whether a box has a cell, end by end."""
    (x0, x1, y0, y1), (x, y) = box, cell
    return (x0 is None or x0 <= x) and (x1 is None or x < x1) and (y0 is None or y0 <= y) and (y1 is None or y < y1)


def runs_of(worths):
    """The triples (low, high, worth) of what the numbers of the window have, without what is nothing."""
    runs = []
    for number in WINDOW:
        if runs and runs[-1][2] == worths[number]:
            runs[-1][1] = number + 1
        else:
            runs.append([number, number + 1, worths[number]])
    runs[0][0], runs[-1][1] = None, None
    return [tuple(run) for run in runs if run[2]]


def slabs_by_hand(has):
    """The slabs of the region whose cells in the window a function tells."""
    rows = {y: tuple((low, high) for low, high, _ in runs_of({x: has((x, y)) for x in WINDOW})) for y in WINDOW}
    return tuple(runs_of(rows))


class Everything:
    """A value that says to be equal to all others."""

    def __eq__(self, other):
        return True


class Touchy:
    """A value that cannot be compared."""

    def __eq__(self, other):
        raise RuntimeError("compared")


def same(one, other):
    """Whether two values are equal and of one class, so that True is not 1."""
    return one is other or (one.__class__ is other.__class__ and one == other)


class PlaneCase(unittest.TestCase):
    """A test case that looks at what an error bears."""

    def bears(self, error, attribute, value, function, /, *told, **named):
        """Check that the call raises just this error, which has this value as this attribute."""
        with self.assertRaises(error) as caught:
            function(*told, **named)
        self.assertIs(caught.exception.__class__, error)
        found = getattr(caught.exception, attribute)
        self.assertTrue(same(found, value), f"{found!r} is told for {value!r}")

    def refuses(self, function, right, kinds=None, named=()):
        """Check all that does not fit of a call, told as a dict of right arguments, where later ones do not fit either.

        An argument whose kind is not told is of the kind of its name; those named are passed by name only.
        """
        names = list(right)
        kinds = {name: (kinds or {}).get(name, name) for name in names}
        wrong = {name: WRONG[kinds[name]][3][-1] for name in names if kinds[name] in WRONG}
        for index, name in enumerate(names):
            if name not in wrong:
                continue
            error, attribute, word, values = WRONG[kinds[name]]
            for value in values:
                borne = value if word is None else word
                told = {**right, name: value}
                by_place = [told[other] for other in names if other not in named]
                self.bears(error, attribute, borne, function, *by_place, **{other: told[other] for other in named})
                self.bears(error, attribute, borne, function, **told)
                later = {other: wrong.get(other) for other in names[index + 1:]}
                self.bears(error, attribute, borne, function, **{**told, **later})

    def asks_for_an_end(self, function, right, later=()):
        """Check that a region has to be finite, which is looked at ahead of the arguments told as later ones."""
        for boxes in ([(None, 0, 0, 1)], [(0, None, 0, 1)], [(0, 1, None, 0)], [(0, 1, 0, None)],
                      [(0, 1, 0, 1), (5, 6, 7, None)], [(None, None, None, None)]):
            told = {**right, "region": Region(boxes)}
            self.bears(NotSo, "word", "end", function, *told.values())
            self.bears(NotSo, "word", "end", function, **{**told, **{name: None for name in later}})
            for name in right:
                if name in WRONG and name not in later and name != "region":
                    error, attribute, word, _ = WRONG[name]
                    self.bears(error, attribute, word, function, **{**told, name: None})

    def same(self, one, other):
        """Check that two values are equal and of one class."""
        self.assertTrue(same(one, other), f"{one!r} is not {other!r}")

    def no_iteration(self, value):
        """Check that an object cannot be iterated, and has no length."""
        with self.assertRaises(TypeError):
            iter(value)
        with self.assertRaises(TypeError):
            len(value)

    def unlike_all(self, value):
        """Check that an object is equal to no value of another class."""
        for other in (None, True, 0, "", (), [], {}, object(), b""):
            self.assertIs(value == other, False)
            self.assertIs(value != other, True)
