"""Lattices."""

import unittest

from endlessplane.errors import BadPart, NotSo
from endlessplane.periods import Lattice, common_lattice, is_shift, joined_lattice, spanned
from tests.helpers import GREAT, NO_INTEGERS, NO_PAIRS, PlaneCase

SMALL = [Lattice(a, b, d) for a in range(1, 5) for d in range(1, 5) for b in range(a)]
SOME = SMALL[::2] + [Lattice(6, 2, 1), Lattice(6, 5, 2), Lattice(9, 3, 2), Lattice(12, 7, 1), Lattice(1, 0, 6)]
WINDOW = [(x, y) for x in range(-14, 15) for y in range(-6, 7)]


def is_held(lattice, shift):
    """Whether the lattice holds the shift, by the sums of multiples of (a, 0) and (b, d)."""
    x, y = shift
    return any((x - k * lattice.b) % lattice.a == 0 for k in range(-abs(y), abs(y) + 1) if k * lattice.d == y)


def told(lattice):
    """What tells the lattice."""
    return (lattice.a, lattice.b, lattice.d)


class ShiftTest(PlaneCase):
    def test_is_shift(self):
        for value in NO_PAIRS + NO_INTEGERS:
            self.assertIs(is_shift(value), False)
        for value in ((0, 0), (-5, 3), (GREAT, -GREAT)):
            self.assertIs(is_shift(value), True)
            self.assertIs(is_shift(value=value), True)


class LatticeTest(PlaneCase):
    def test_attributes(self):
        self.assertEqual(told(Lattice(5, 3, 2)), (5, 3, 2))
        self.assertEqual(told(Lattice(d=2, b=3, a=5)), (5, 3, 2))
        self.assertEqual(told(Lattice(GREAT, GREAT - 1, GREAT)), (GREAT, GREAT - 1, GREAT))
        self.no_iteration(Lattice(1, 0, 1))

    def test_made_wrongly(self):
        for value in NO_INTEGERS + [0, -1, -GREAT]:
            self.bears(BadPart, "part", "a", Lattice, value, value, value)
            self.bears(BadPart, "part", "a", Lattice, value, 0, 1)
            self.bears(BadPart, "part", "d", Lattice, 1, 0, value)
            self.bears(BadPart, "part", "d", Lattice, d=value, b=4, a=5)
        for value in NO_INTEGERS + [-1, 5, 6, GREAT]:
            self.bears(BadPart, "part", "b", Lattice, 5, value, 0)
            self.bears(BadPart, "part", "b", Lattice, 5, value, 1)
        self.bears(BadPart, "part", "b", Lattice, 1, 1, 1)

    def test_equal(self):
        for one in SMALL:
            for other in SMALL:
                self.assertIs(one == other, told(one) == told(other))
                self.assertIs(one != other, told(one) != told(other))
        self.unlike_all(Lattice(1, 0, 1))
        self.assertIs(Lattice(1, 0, 1) == (1, 0, 1), False)

    def test_holds(self):
        for lattice in SOME:
            for shift in WINDOW:
                self.assertIs(shift in lattice, is_held(lattice, shift))
            for value in NO_PAIRS + NO_INTEGERS:
                self.assertIs(value in lattice, False)
        great = Lattice(GREAT, 7, 3)
        self.assertIs((21 + 5 * GREAT, 9) in great, True)
        self.assertIs((22 + 5 * GREAT, 9) in great, False)
        self.assertIs((7 * GREAT, 3 * GREAT) in great, True)

    def test_area_and_places(self):
        for lattice in SOME:
            self.same(lattice.area(), lattice.a * lattice.d)
            places = lattice.places()
            self.assertIsInstance(places, list)
            self.assertEqual(places, [(x, y) for y in range(lattice.d) for x in range(lattice.a)])
            places.clear()
            self.assertEqual(len(lattice.places()), lattice.area())
        self.assertEqual(Lattice(GREAT, 0, GREAT).area(), GREAT * GREAT)

    def test_place(self):
        for lattice in SOME:
            for cell in WINDOW:
                x, y = lattice.place(cell)
                self.assertTrue(0 <= x < lattice.a and 0 <= y < lattice.d)
                self.assertTrue(is_held(lattice, (cell[0] - x, cell[1] - y)))
                self.same(lattice.place(cell=cell), (x, y))
        self.same(Lattice(10, 3, 2).place((GREAT + 3, 2 * GREAT + 1)), (3, 1))
        self.same(Lattice(10, 3, 2).place((0, -1)), (3, 1))
        for value in NO_PAIRS:
            self.bears(BadPart, "part", "cell", Lattice(5, 3, 2).place, value)

    def test_order(self):
        for lattice in SOME:
            for x, y in WINDOW:
                order = [n for n in range(1, 40) if is_held(lattice, (n * x, n * y))][0]
                self.same(lattice.order((x, y)), order)
                self.assertEqual(lattice.area() % order, 0)
        self.assertEqual(Lattice(GREAT, 0, 1).order(shift=(1, 0)), GREAT)
        self.assertEqual(Lattice(GREAT, 1, 6).order((0, 4)), 3 * (GREAT // 2))
        self.assertEqual(Lattice(5, 3, 2).order((0, 0)), 1)
        for value in NO_PAIRS:
            self.bears(BadPart, "part", "shift", Lattice(5, 3, 2).order, value)

    def test_within(self):
        for one in SOME:
            for other in SOME:
                within = all(is_held(other, shift) for shift in WINDOW if is_held(one, shift))
                self.assertIs(one <= other, within)
        for value in (None, True, 5, (1, 0, 1), [1, 0, 1]):
            self.assertIs(Lattice(1, 0, 1) <= value, False)
        self.assertIs(Lattice(6 * GREAT, 2 * GREAT, GREAT) <= Lattice(2 * GREAT, 0, 1), True)
        self.assertIs(Lattice(6 * GREAT, GREAT, GREAT) <= Lattice(2 * GREAT, 0, 1), False)


class SpannedTest(PlaneCase):
    def test_spanned(self):
        shifts = [(x, y) for x in range(-4, 5) for y in range(-3, 4)]
        for one in shifts:
            for other in shifts:
                area = abs(one[0] * other[1] - other[0] * one[1])
                if area == 0:
                    self.bears(NotSo, "word", "parallel", spanned, one, other)
                else:
                    # A lattice with both shifts and with this area has no other ones than their sums.
                    lattice = spanned(one, other)
                    self.assertIsInstance(lattice, Lattice)
                    self.assertTrue(is_held(lattice, one) and is_held(lattice, other))
                    self.assertEqual(lattice.area(), area)
        self.assertEqual(told(spanned(other=(2, 2), one=(4, 0))), (4, 2, 2))
        self.assertEqual(told(spanned((GREAT, 0), (1, 1))), (GREAT, 1, 1))
        self.assertEqual(told(spanned((0, GREAT), (GREAT, 0))), (GREAT, 0, GREAT))

    def test_wrong_arguments(self):
        for value in NO_PAIRS:
            self.bears(BadPart, "part", "shift", spanned, value, (0, 0))
            self.bears(BadPart, "part", "shift", spanned, (0, 0), value)
            self.bears(BadPart, "part", "shift", spanned, other=value, one=(1, 0))
        self.bears(NotSo, "word", "parallel", spanned, (2 * GREAT, 4), (3 * GREAT, 6))
        self.bears(NotSo, "word", "parallel", spanned, (0, 0), (1, 0))


class TogetherTest(PlaneCase):
    def test_common(self):
        for one in SOME:
            for other in SOME:
                common = common_lattice(one, other)
                self.assertIsInstance(common, Lattice)
                for shift in WINDOW:
                    self.assertIs(shift in common, is_held(one, shift) and is_held(other, shift))
                self.assertEqual(common, common_lattice(other=one, one=other))

    def test_joined(self):
        for one in SOME:
            for other in SOME:
                joined = joined_lattice(one, other)
                self.assertIsInstance(joined, Lattice)
                self.assertTrue(one <= joined and other <= joined)
                for lattice in SOME:
                    if one <= lattice and other <= lattice:
                        self.assertTrue(joined <= lattice)
                self.assertEqual(joined, joined_lattice(other=one, one=other))

    def test_areas(self):
        more = [Lattice(12, 5, 10), Lattice(90, 88, 7), Lattice(2 * GREAT, 3, 4), Lattice(GREAT, GREAT - 1, 3 * GREAT)]
        for one in SOME + more:
            for other in SOME + more:
                common, joined = common_lattice(one, other), joined_lattice(one, other)
                self.assertEqual(common.area() * joined.area(), one.area() * other.area())
                self.assertTrue(common <= one <= joined and common <= other <= joined)

    def test_told(self):
        self.assertEqual(told(common_lattice(Lattice(2, 1, 1), Lattice(3, 0, 1))), (6, 3, 1))
        self.assertEqual(told(common_lattice(Lattice(2, 1, 1), Lattice(2, 0, 1))), (2, 0, 2))
        self.assertEqual(told(joined_lattice(Lattice(4, 1, 2), Lattice(6, 0, 3))), (1, 0, 1))
        self.assertEqual(told(joined_lattice(Lattice(4, 2, 2), Lattice(6, 0, 2))), (2, 0, 2))

    def test_wrong_arguments(self):
        for function in (common_lattice, joined_lattice):
            for value in (None, True, 5, (1, 0, 1), [1, 0, 1], "lattice"):
                self.bears(BadPart, "part", "lattice", function, value, Lattice(1, 0, 1))
                self.bears(BadPart, "part", "lattice", function, Lattice(1, 0, 1), value)
                self.bears(BadPart, "part", "lattice", function, other=value, one=Lattice(1, 0, 1))


if __name__ == "__main__":
    unittest.main()
