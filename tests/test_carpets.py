"""Carpets and their normal forms."""

import random
import unittest

from endlessplane.carpets import Carpet, plain, woven
from endlessplane.errors import BadIndex, BadNumber, BadPart, TooMany
from endlessplane.periods import Lattice
from tests.helpers import GREAT, NO_COLOURS, NO_INTEGERS, NO_PAIRS, PlaneCase

# The same chess three times, and its like of the other colour.
CHESS = Carpet(2, 1, 1, ["01"])
CHESS_IN_FOUR = Carpet(4, 0, 2, ["0101", "1010"])
CHESS_IN_SIX = Carpet(6, 3, 3, ["010101", "101010", "010101"])
OTHER_CHESS = Carpet(2, 1, 1, ["10"])


def colour_at(a, b, d, rows, x, y):
    """The colour of a cell, as point 5 tells it."""
    k = y // d
    j = y - k * d
    return int(rows[j][(x - b * k) % a])


def told(carpet):
    """What tells the carpet."""
    return (carpet.a, carpet.b, carpet.d, carpet.rows)


def least_by_hand(carpet):
    """The least lattice, found by looking at all shifts of one cell of the told one."""
    a, b, d, rows = told(carpet)

    def is_period(sx, sy):
        return all(colour_at(a, b, d, rows, x, y) == colour_at(a, b, d, rows, x + sx, y + sy)
                   for y in range(d) for x in range(a))

    wide = [x for x in range(1, a + 1) if is_period(x, 0)][0]
    high, slant = [(y, x) for y in range(1, d + 1) for x in range(wide) if is_period(x, y)][0]
    return (wide, slant, high)


def by_chance(seed, many):
    """Carpets by chance, some of them told by a lattice greater than their least one."""
    chance = random.Random(seed)
    carpets = []
    while len(carpets) < many:
        a, d = chance.choice([1, 2, 3, 4, 6, 8]), chance.choice([1, 2, 3, 4, 6])
        inner = Carpet(a, chance.randrange(a), d, ["".join(chance.choice("0012") for _ in range(a)) for _ in range(d)])
        wide, high = a * chance.choice([1, 1, 2, 3]), d * chance.choice([1, 1, 2])
        if wide * high <= 144:
            # The slant of the greater lattice fits, so that its shifts are shifts of the lesser one.
            slant = (inner.b * (high // d) + a * chance.randrange(9)) % wide
            rows = ["".join(str(colour_at(a, inner.b, d, inner.rows, x, y)) for x in range(wide)) for y in range(high)]
            carpets.append(Carpet(wide, slant, high, rows))
    return carpets


class CarpetTest(PlaneCase):
    def test_attributes(self):
        self.assertEqual(told(Carpet(2, 1, 1, ["01"])), (2, 1, 1, ("01",)))
        self.assertEqual(told(Carpet(rows=("010", "222"), d=2, b=0, a=3)), (3, 0, 2, ("010", "222")))
        self.assertEqual(told(CHESS_IN_FOUR), (4, 0, 2, ("0101", "1010")))
        self.assertIsInstance(CHESS.rows, tuple)
        self.no_iteration(CHESS)

    def test_rows_are_not_kept(self):
        rows = ["01", "23"]
        carpet = Carpet(2, 0, 2, rows)
        rows[0] = "99"
        rows.append("77")
        self.assertEqual(carpet.rows, ("01", "23"))
        self.assertEqual(carpet.colour((1, 0)), 1)
        self.assertEqual(rows, ["99", "23", "77"])

    def test_wrong_numbers(self):
        for value in NO_INTEGERS + [0, -1, -GREAT]:
            self.bears(BadPart, "part", "a", Carpet, value, value, value, value)
            self.bears(BadPart, "part", "d", Carpet, 2, 1, value, [])
            self.bears(BadPart, "part", "d", Carpet, d=value, a=GREAT, b=0, rows=None)
        for value in NO_INTEGERS + [-1, 2, 3, GREAT]:
            self.bears(BadPart, "part", "b", Carpet, 2, value, 0, [])
            self.bears(BadPart, "part", "b", Carpet, 2, value, 1, ["01"])

    def test_too_many(self):
        for a, d in ((145, 1), (1, 145), (12, 13), (29, 5), (GREAT, 1), (1, GREAT)):
            self.bears(TooMany, "limit", 144, Carpet, a, 0, d, None)
            self.bears(TooMany, "limit", 144, Carpet, a, a - 1, d, ["0" * 5])
        for a, d in ((144, 1), (1, 144), (12, 12), (9, 16)):
            self.assertEqual(Carpet(a, 0, d, ["1" * a] * d).normal(), (1, 0, 1, ("1",)))

    def test_wrong_rows(self):
        for value in (None, True, 2, "01", {}, {0: "01", 1: "01"}, [], ["01"], ["01", "01", "01"], (), ("01",)):
            self.bears(BadPart, "part", "rows", Carpet, 2, 0, 2, value)
        for value in (None, 1, 10, "", "0", "010", "0a", "-1", " 1", "1 ", "1\n", b"01", ["0", "1"], (0, 1)):
            self.bears(BadIndex, "index", 0, Carpet, 2, 0, 2, [value, value])
            self.bears(BadIndex, "index", 1, Carpet, 2, 0, 2, ["01", value])
            self.bears(BadIndex, "index", 1, Carpet, 2, 0, 3, rows=("01", value, None))

    def test_colour(self):
        for carpet in by_chance(1, 40) + [CHESS, CHESS_IN_SIX]:
            for y in range(-9, 10):
                for x in range(-9, 10):
                    wanted = colour_at(carpet.a, carpet.b, carpet.d, carpet.rows, x, y)
                    self.same(carpet.colour((x, y)), wanted)
        self.same(CHESS_IN_FOUR.colour((-1, 10 ** 30)), 1)
        self.same(Carpet(5, 3, 2, ["01234", "56789"]).colour(cell=(GREAT + 4, 2 * GREAT)), 4)
        for value in NO_PAIRS:
            self.bears(BadPart, "part", "cell", CHESS.colour, value)

    def test_shifts_of_the_lattice(self):
        for carpet in by_chance(2, 20):
            for x, y in ((0, 0), (3, -4), (-7, 9)):
                colour = carpet.colour((x, y))
                self.assertEqual(carpet.colour((x + carpet.a, y)), colour)
                self.assertEqual(carpet.colour((x + carpet.b, y + carpet.d)), colour)


class NormalTest(PlaneCase):
    def test_lattices(self):
        for carpet in by_chance(3, 120):
            a, b, d = least_by_hand(carpet)
            self.assertEqual(carpet.lattice(), Lattice(carpet.a, carpet.b, carpet.d))
            self.assertEqual(carpet.least(), Lattice(a, b, d))
            self.assertTrue(carpet.lattice() <= carpet.least())
            rows = tuple("".join(str(carpet.colour((x, y))) for x in range(a)) for y in range(d))
            self.same(carpet.normal(), (a, b, d, rows))

    def test_in_normal(self):
        for carpet in by_chance(4, 40):
            other = carpet.in_normal()
            self.assertIsInstance(other, Carpet)
            self.same(told(other), carpet.normal())
            self.same(other.normal(), carpet.normal())
            self.assertEqual(other, carpet)

    def test_told(self):
        for carpet in (CHESS, CHESS_IN_FOUR, CHESS_IN_SIX):
            self.assertEqual(carpet.normal(), (2, 1, 1, ("01",)))
        self.assertEqual(Carpet(3, 2, 4, ["777"] * 4).normal(), (1, 0, 1, ("7",)))
        self.assertEqual(Carpet(4, 2, 1, ["0110"]).normal(), (4, 2, 1, ("0110",)))
        self.assertEqual(Carpet(4, 2, 2, ["0011", "0110"]).normal(), (4, 3, 1, ("0011",)))
        self.assertEqual(Carpet(2, 0, 2, ["00", "11"]).normal(), (1, 0, 2, ("0", "1")))
        self.assertEqual(Carpet(12, 0, 12, ["0" * 12] * 11 + ["0" * 11 + "1"]).least(), Lattice(12, 0, 12))
        self.assertEqual(Carpet(144, 89, 1, ["0" * 143 + "1"]).least(), Lattice(144, 89, 1))

    def test_shares(self):
        for carpet in by_chance(5, 40):
            colours = [carpet.colour(place) for place in carpet.least().places()]
            shares = carpet.shares()
            self.same(shares, [colours.count(colour) for colour in range(10)])
            shares.clear()
            self.assertEqual(sum(carpet.shares()), carpet.least().area())
        self.assertEqual(CHESS_IN_SIX.shares(), [1, 1] + [0] * 8)
        self.assertEqual(Carpet(5, 0, 2, ["01234", "56789"]).shares(), [1] * 10)

    def test_alike(self):
        carpets = by_chance(6, 40) + [CHESS, CHESS_IN_FOUR, CHESS_IN_SIX, OTHER_CHESS]
        for one in carpets:
            for other in carpets:
                alike = all(one.colour((x, y)) == other.colour((x, y)) for y in range(12) for x in range(24))
                self.assertIs(one == other, alike)
                self.assertIs(one != other, not alike)
                self.assertIs(one.normal() == other.normal(), alike)
        self.unlike_all(CHESS)
        self.assertIs(CHESS == (2, 1, 1, ("01",)), False)

    def test_parting_in_one_place(self):
        for place in (0, 1, 71, 142, 143):
            text = "01" * 72
            other = text[:place] + "2" + text[place + 1:]
            rows = [text[k:k + 12] for k in range(0, 144, 12)]
            other_rows = [other[k:k + 12] for k in range(0, 144, 12)]
            self.assertIs(Carpet(12, 0, 12, rows) == Carpet(2, 0, 1, ["01"]), True)
            self.assertIs(Carpet(12, 0, 12, rows) == Carpet(12, 0, 12, other_rows), False)


class MovedTest(PlaneCase):
    def test_moved_by(self):
        for carpet in by_chance(7, 30):
            for shift in ((0, 0), (1, 0), (0, 1), (-3, 2), (5, -7)):
                moved = carpet.moved_by(shift)
                self.assertIsInstance(moved, Carpet)
                self.same(told(moved), moved.normal())
                self.assertEqual(moved.least(), carpet.least())
                for y in range(-4, 9):
                    for x in range(-4, 9):
                        self.assertEqual(moved.colour((x, y)), carpet.colour((x - shift[0], y - shift[1])))
        self.assertEqual(CHESS_IN_FOUR.moved_by(shift=(GREAT + 1, 0)).normal(), (2, 1, 1, ("10",)))
        self.assertEqual(Carpet(3, 1, 1, ["012"]).moved_by((0, -GREAT)), Carpet(3, 1, 1, ["201"]))

    def test_as_many_as_the_area(self):
        for carpet in by_chance(8, 30):
            forms = []
            for y in range(carpet.d):
                for x in range(carpet.a):
                    moved = carpet.moved_by((x, y))
                    self.assertIs(moved == carpet, carpet.is_period((x, y)))
                    if moved.normal() not in forms:
                        forms.append(moved.normal())
            self.assertEqual(len(forms), carpet.least().area())

    def test_is_period(self):
        for carpet in by_chance(9, 40):
            for sy in range(-6, 7, 3):
                for sx in range(-9, 10):
                    alike = all(carpet.colour((x, y)) == carpet.colour((x + sx, y + sy))
                                for y in range(carpet.d) for x in range(carpet.a))
                    self.assertIs(carpet.is_period((sx, sy)), alike)
        self.assertIs(CHESS_IN_FOUR.is_period(shift=(1, 3)), True)
        self.assertIs(CHESS.is_period((GREAT, 2 * GREAT)), True)
        self.assertIs(CHESS.is_period((GREAT + 1, 2 * GREAT)), False)

    def test_wrong_shifts(self):
        for value in NO_PAIRS:
            self.bears(BadPart, "part", "shift", CHESS.moved_by, value)
            self.bears(BadPart, "part", "shift", CHESS.is_period, value)


class MadeTest(PlaneCase):
    def test_plain(self):
        for colour in range(10):
            self.assertIsInstance(plain(colour), Carpet)
            self.assertEqual(plain(colour).normal(), (1, 0, 1, (str(colour),)))
            self.same(plain(colour=colour).colour((-5, GREAT)), colour)
        for value in NO_COLOURS:
            self.bears(BadNumber, "number", value, plain, value)

    def test_woven(self):
        carpet = woven(Lattice(4, 0, 2), lambda cell: (cell[0] + cell[1]) % 2)
        self.same(told(carpet), (4, 0, 2, ("0101", "1010")))
        carpet = woven(colour_of=lambda cell: cell[0] + 4 * cell[1], lattice=Lattice(4, 3, 2))
        self.same(told(carpet), (4, 3, 2, ("0123", "4567")))
        self.assertEqual(woven(Lattice(144, 5, 1), lambda cell: 6), plain(6))

    def test_woven_asks_once(self):
        asked = []

        def colour_of(cell):
            asked.append(cell)
            return 7 if cell != (1, 2) else 12

        woven(Lattice(3, 1, 2), colour_of)
        self.assertEqual(asked, [(0, 0), (1, 0), (2, 0), (0, 1), (1, 1), (2, 1)])
        asked.clear()
        self.bears(BadNumber, "number", 12, woven, Lattice(2, 1, 5), colour_of)
        self.assertEqual(asked, [(0, 0), (1, 0), (0, 1), (1, 1), (0, 2), (1, 2)])

    def test_woven_wrongly(self):
        def never(_):
            raise AssertionError("asked of a place")

        for value in (None, True, 5, (1, 0, 1), CHESS, "lattice"):
            self.bears(BadPart, "part", "lattice", woven, value, never)
        for lattice in (Lattice(145, 0, 1), Lattice(1, 0, 145), Lattice(GREAT, 0, GREAT)):
            self.bears(TooMany, "limit", 144, woven, lattice, never)
        for value in NO_COLOURS:
            self.bears(BadNumber, "number", value, woven, Lattice(2, 0, 2), lambda cell: value)
            self.bears(BadNumber, "number", value, woven, Lattice(2, 0, 2), lambda cell: 3 if cell != (1, 1) else value)


if __name__ == "__main__":
    unittest.main()
