"""Lines and ways of steps."""

import unittest

from endlessplane.errors import BadNumber, BadPart
from endlessplane.lines import (
    both_remainders, greatest_divisor, in_box, in_stretch, least_multiple, on_cell, on_number, remainder_of,
)
from endlessplane.stretches import Spread, Stretch
from tests.helpers import GREAT, NO_INTEGERS, NO_PAIRS, PlaneCase

WINDOW = range(-70, 71)

NO_BOXES = [
    None, True, 5, "", (), (0, 1, 0), (0, 1, 0, 1, 0), [0, 1, 0, 1], (0, 0, 0, 1), (0, 1, 0, 0), (1, 0, 0, 1),
    (0, 1, 5, 2), (True, 5, 0, 1), (0, 5, False, 1), (0, True, 0, 1), (0, 1, 0, "1"), ((0, 1), (0, 1)), (0, 1, 0, True),
]


def step_by_step(holds):
    """The pair of ends of the i of the window for which it holds, None without any."""
    held = [i for i in WINDOW if holds(i)]
    if not held:
        return None
    return (None if held[0] == WINDOW[0] else held[0], None if held[-1] == WINDOW[-1] else held[-1] + 1)


def divisors_of(one, other):
    """All common divisors of two integers that are not both 0."""
    return [k for k in range(1, abs(one) + abs(other) + 1) if one % k == 0 and other % k == 0]


class DivisorsTest(PlaneCase):
    def test_greatest_divisor(self):
        for one in range(-24, 25):
            for other in range(-24, 25):
                wanted = 0 if (one, other) == (0, 0) else divisors_of(one, other)[-1]
                self.same(greatest_divisor(one, other), wanted)
        self.assertEqual(greatest_divisor(one=6 * GREAT, other=-4 * GREAT), 2 * GREAT)
        self.assertEqual(greatest_divisor(0, -GREAT), GREAT)

    def test_least_multiple(self):
        for one in range(1, 25):
            for other in range(1, 25):
                wanted = [k for k in range(1, one * other + 1) if k % one == 0 and k % other == 0][0]
                self.same(least_multiple(one, other), wanted)
        self.assertEqual(least_multiple(one=6 * GREAT, other=4 * GREAT), 12 * GREAT)

    def test_wrong_numbers(self):
        for value in NO_INTEGERS:
            for function in (greatest_divisor, least_multiple):
                self.bears(BadNumber, "number", value, function, value, "other")
                self.bears(BadNumber, "number", value, function, 1, value)
                self.bears(BadNumber, "number", value, function, other=value, one=1)
        for value in (0, -1, -GREAT):
            self.bears(BadNumber, "number", value, least_multiple, value, "other")
            self.bears(BadNumber, "number", value, least_multiple, 1, value)


class LineTest(PlaneCase):
    def ends(self, found, wanted):
        """Check that a Stretch with these ends is found, or None."""
        if wanted is None:
            self.assertIsNone(found)
        else:
            self.assertIsInstance(found, Stretch)
            self.assertEqual((found.low, found.high), wanted)

    def test_in_stretch(self):
        for a in range(-6, 7, 2):
            for b in range(-4, 5):
                for low in (None, -9, -3, 0, 1, 4):
                    for high in (None, -8, -2, 1, 2, 3, 10):
                        if low is None or high is None or low < high:
                            stretch = Stretch(low, high)
                            wanted = step_by_step(lambda i: stretch.holds(a + b * i))
                            self.ends(in_stretch(a, b, stretch), wanted)
        self.ends(in_stretch(stretch=Stretch(0, 10), b=3, a=-1), (1, 4))
        self.ends(in_stretch(1, 2, Stretch(GREAT, GREAT + 2)), (GREAT // 2, GREAT // 2 + 1))
        self.ends(in_stretch(1, GREAT, Stretch(2, GREAT)), None)
        self.ends(in_stretch(GREAT, -2, Stretch(None, 0)), (GREAT // 2 + 1, None))

    def test_in_stretch_with_wrong_arguments(self):
        for value in NO_INTEGERS:
            self.bears(BadNumber, "number", value, in_stretch, value, "b", None)
            self.bears(BadNumber, "number", value, in_stretch, 1, value, None)
        for value in (None, True, 5, (0, 5), "stretch", Spread(), Spread([Stretch(0, 5)])):
            self.bears(BadPart, "part", "stretch", in_stretch, 1, 2, value)
            self.bears(BadPart, "part", "stretch", in_stretch, 1, 0, value)

    def test_on_number(self):
        for a in range(-6, 7):
            for b in range(-4, 5):
                for number in range(-6, 7):
                    wanted = step_by_step(lambda i: a + b * i == number)
                    self.ends(on_number(a, b, number), wanted)
        self.ends(on_number(number=7, b=2, a=1), (3, 4))
        self.ends(on_number(5, 0, 5), (None, None))
        self.ends(on_number(1, -7, 1 - 7 * GREAT), (GREAT, GREAT + 1))
        self.ends(on_number(2, -7, 1 - 7 * GREAT), None)
        for value in NO_INTEGERS:
            self.bears(BadNumber, "number", value, on_number, value, "b", "number")
            self.bears(BadNumber, "number", value, on_number, 0, value, "number")
            self.bears(BadNumber, "number", value, on_number, 0, 0, value)

    def test_in_box(self):
        boxes = [(None, None, None, None), (0, 4, 0, 3), (-5, None, None, 2), (None, 1, 1, 2), (3, 4, None, None)]
        for cell in ((0, 0), (-7, 5), (3, 1), (9, -2)):
            for u in range(-2, 3):
                for v in range(-2, 3):
                    for x0, x1, y0, y1 in boxes:
                        across, along = Stretch(x0, x1), Stretch(y0, y1)
                        wanted = step_by_step(
                            lambda i: across.holds(cell[0] + u * i) and along.holds(cell[1] + v * i))
                        self.ends(in_box(cell, (u, v), (x0, x1, y0, y1)), wanted)
        self.ends(in_box(box=(0, 10, None, None), step=(2, -1), cell=(-7, 5)), (4, 9))
        self.ends(in_box((0, 0), (1, 1), (0, GREAT, 5, 2 * GREAT)), (5, GREAT))
        self.ends(in_box((0, 0), (1, 1), (0, 4, 3, 9)), (3, 4))
        self.ends(in_box((0, 0), (1, 1), (0, 4, 4, 9)), None)
        self.ends(in_box((2, 2), (0, 0), (0, 4, 0, 4)), (None, None))

    def test_on_cell(self):
        for cell in ((0, 0), (-3, 2)):
            for u in range(-2, 3):
                for v in range(-2, 3):
                    for x in range(-6, 7):
                        for y in range(-6, 7):
                            wanted = step_by_step(lambda i: (cell[0] + u * i, cell[1] + v * i) == (x, y))
                            self.ends(on_cell(cell, (u, v), (x, y)), wanted)
        self.ends(on_cell(goal=(GREAT, 5), step=(1, 0), cell=(0, 5)), (GREAT, GREAT + 1))
        self.ends(on_cell((1, 1), (0, 0), (1, 1)), (None, None))
        self.ends(on_cell((1, 1), (0, 0), (1, 2)), None)

    def test_ways_with_wrong_arguments(self):
        for value in NO_PAIRS:
            self.bears(BadPart, "part", "cell", in_box, value, None, None)
            self.bears(BadPart, "part", "step", in_box, (0, 0), value, None)
            self.bears(BadPart, "part", "cell", on_cell, value, None, None)
            self.bears(BadPart, "part", "step", on_cell, (0, 0), value, None)
            self.bears(BadPart, "part", "cell", on_cell, (0, 0), (1, 0), value)
        for value in NO_BOXES:
            self.bears(BadPart, "part", "box", in_box, (0, 0), (1, 0), value)
            self.bears(BadPart, "part", "box", in_box, (0, 0), (0, 0), box=value)


class RemainderTest(PlaneCase):
    def test_remainder_of(self):
        for a in range(-3, 8, 2):
            for b in range(-9, 10):
                for p in range(1, 9):
                    for r in range(-2, 9, 3):
                        held = [i for i in range(30) if (a + b * i - r) % p == 0]
                        found = remainder_of(a, b, r, p)
                        if not held:
                            self.assertIsNone(found)
                        else:
                            self.same(found, (held[0], held[1] - held[0]))
        self.same(remainder_of(p=4, r=3, b=6, a=1), (1, 2))
        self.same(remainder_of(7, 0, 2, 5), (0, 1))
        self.assertIsNone(remainder_of(7, 0, 3, 5))

    def test_great_remainders(self):
        a, b, p = 3 * GREAT + 1, 4 * GREAT + 6, 9 * GREAT + 3
        s, q = remainder_of(a, b, a + 2 * b, p)
        self.assertEqual((a + b * s - a - 2 * b) % p, 0)
        self.assertEqual((s, q), (2 % q, p // greatest_divisor(b, p)))
        self.same(remainder_of(0, 2, GREAT, 2 * GREAT), (GREAT // 2, GREAT))

    def test_both_remainders(self):
        for p in range(1, 9):
            for q in range(1, 9):
                for r in range(-2, 9):
                    for s in range(-3, 9):
                        held = [i for i in range(130) if (i - r) % p == 0 and (i - s) % q == 0]
                        found = both_remainders((r, p), (s, q))
                        if not held:
                            self.assertIsNone(found)
                        else:
                            self.same(found, (held[0], held[1] - held[0]))
        self.same(both_remainders(other=(0, 6), one=(2, 4)), (6, 12))
        self.assertIsNone(both_remainders((0, 2), (1, 4)))
        self.same(both_remainders((-1, GREAT), (-1, GREAT + 1)), (GREAT * (GREAT + 1) - 1, GREAT * (GREAT + 1)))
        self.same(both_remainders((5, 2 * GREAT), (5 + GREAT, 3 * GREAT)), (5 + 4 * GREAT, 6 * GREAT))

    def test_wrong_arguments(self):
        for value in NO_INTEGERS:
            self.bears(BadNumber, "number", value, remainder_of, value, "b", "r", 0)
            self.bears(BadNumber, "number", value, remainder_of, 0, value, "r", 0)
            self.bears(BadNumber, "number", value, remainder_of, 0, 1, value, 0)
            self.bears(BadNumber, "number", value, remainder_of, 0, 1, 0, value)
        for value in (0, -1, -GREAT):
            self.bears(BadNumber, "number", value, remainder_of, 0, 1, 0, value)
            self.bears(BadNumber, "number", value, remainder_of, 0, 0, 1, value)
        no_remainders = [(0, 0), (1, -2), (0, -GREAT), (0, True), (0, "1"), [0, 1], (0, 1, 1), (0, None), "01"]
        no_remainders += [(value, 1) for value in NO_INTEGERS]
        for value in NO_PAIRS + no_remainders:
            self.bears(BadPart, "part", "remainder", both_remainders, value, (0, 1))
            self.bears(BadPart, "part", "remainder", both_remainders, (0, 1), value)
            self.bears(BadPart, "part", "remainder", both_remainders, other=value, one=(0, 1))


if __name__ == "__main__":
    unittest.main()
