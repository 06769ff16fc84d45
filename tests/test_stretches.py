"""Stretches."""

import unittest

from endlessplane.errors import BadNumber, BadPart
from endlessplane.stretches import Spread, Stretch
from tests.helpers import GREAT, NO_INTEGERS, PlaneCase

WINDOW = range(-60, 61)
ENDS = [None, -7, -4, -1, 0, 1, 2, 5, 9]
REMAINDERS = [(0, 1), (0, 2), (1, 2), (-1, 3), (2, 3), (7, 4), (-9, 5), (3, 20)]


def all_stretches():
    """Many stretches, with and without ends."""
    for low in ENDS:
        for high in ENDS:
            if low is None or high is None or low < high:
                yield Stretch(low, high)


def members_of(stretch, r, p):
    """The members that lie in the window, one by one."""
    return [i for i in WINDOW if (stretch.low is None or stretch.low <= i)
            and (stretch.high is None or i < stretch.high) and (i - r) % p == 0]


class StretchTest(PlaneCase):
    def test_attributes(self):
        self.assertEqual((Stretch().low, Stretch().high), (None, None))
        self.assertEqual((Stretch(3).low, Stretch(3).high), (3, None))
        self.assertEqual((Stretch(high=3).low, Stretch(high=3).high), (None, 3))
        self.assertEqual((Stretch(-GREAT, GREAT).low, Stretch(-GREAT, GREAT).high), (-GREAT, GREAT))
        self.assertEqual(Stretch(low=1, high=2), Stretch(1, 2))

    def test_made_wrongly(self):
        for value in NO_INTEGERS[1:]:
            self.bears(BadPart, "part", "stretch", Stretch, value)
            self.bears(BadPart, "part", "stretch", Stretch, value, 5)
            self.bears(BadPart, "part", "stretch", Stretch, 0, value)
            self.bears(BadPart, "part", "stretch", Stretch, None, value)
        for low, high in ((0, 0), (1, 0), (GREAT, -GREAT), (GREAT + 1, GREAT + 1)):
            self.bears(BadPart, "part", "stretch", Stretch, low, high)
            self.bears(BadPart, "part", "stretch", Stretch, high=high, low=low)

    def test_holds(self):
        for stretch in all_stretches():
            members = members_of(stretch, 0, 1)
            for i in WINDOW:
                self.assertIs(stretch.holds(i), i in members)
            for value in NO_INTEGERS:
                self.assertIs(stretch.holds(value), False)
        self.assertIs(Stretch(0, 1).holds(number=0), True)
        self.assertIs(Stretch(GREAT).holds(GREAT), True)
        self.assertIs(Stretch(GREAT).holds(GREAT - 1), False)

    def test_moved_and_turned(self):
        for stretch in all_stretches():
            for by in (-20, -1, 0, 3, 20):
                moved = stretch.moved(by)
                turned = stretch.turned()
                self.assertIsInstance(moved, Stretch)
                self.assertIsInstance(turned, Stretch)
                for i in range(-30, 31):
                    self.assertIs(moved.holds(i + by), stretch.holds(i))
                    self.assertIs(turned.holds(-i), stretch.holds(i))
        self.assertEqual(Stretch(-GREAT, 5).moved(by=GREAT), Stretch(0, GREAT + 5))
        self.assertEqual(Stretch(2, GREAT).turned(), Stretch(1 - GREAT, -1))
        self.assertEqual(Stretch(2).turned(), Stretch(None, -1))

    def test_common(self):
        for one in all_stretches():
            for other in all_stretches():
                both = [i for i in WINDOW if one.holds(i) and other.holds(i)]
                common = one.common(other)
                if not both:
                    self.assertIsNone(common)
                else:
                    self.assertEqual([i for i in WINDOW if common.holds(i)], both)
        self.assertEqual(Stretch(0, 5).common(other=Stretch(4)), Stretch(4, 5))
        self.assertIsNone(Stretch(0, 5).common(Stretch(5)))
        for value in (None, 5, (0, 5), Spread(), Spread([Stretch(0, 5)])):
            self.bears(BadPart, "part", "stretch", Stretch(0, 5).common, value)

    def test_within_and_equal(self):
        for one in all_stretches():
            for other in all_stretches():
                within = all(other.holds(i) for i in WINDOW if one.holds(i))
                self.assertIs(one <= other, within)
                self.assertIs(one == other, within and other <= one)
                self.assertIs(one != other, not (within and other <= one))
        for value in (None, 5, (0, 5), [0, 5], Spread([Stretch(0, 5)])):
            self.assertIs(Stretch(0, 5) <= value, False)
        self.unlike_all(Stretch(0, 5))
        self.assertIs(Stretch(0, 5) == Spread([Stretch(0, 5)]), False)
        self.assertIs(Stretch() == Spread([Stretch()]), False)

    def test_no_iteration(self):
        self.no_iteration(Stretch(0, 5))


class MembersTest(PlaneCase):
    def test_count_first_final(self):
        for stretch in all_stretches():
            for r, p in REMAINDERS:
                members = members_of(stretch, r, p)
                first = members[0] if members and stretch.low is not None else None
                final = members[-1] if members and stretch.high is not None else None
                endless = stretch.low is None or stretch.high is None
                self.same(stretch.count(r, p), None if endless else len(members))
                self.same(stretch.first(r, p), first)
                self.same(stretch.final(r, p), final)

    def test_nth(self):
        for stretch in all_stretches():
            for r, p in REMAINDERS:
                members = members_of(stretch, r, p)
                for n in range(20):
                    found = stretch.nth(n, r, p)
                    if stretch.low is None:
                        self.assertIsNone(found)
                    elif n < len(members):
                        self.assertEqual(found, members[n])
                    elif stretch.high is not None:
                        self.assertIsNone(found)
                    else:
                        self.assertEqual(found, members[0] + n * p)

    def test_below(self):
        for stretch in all_stretches():
            for r, p in REMAINDERS:
                members = members_of(stretch, r, p)
                for number in range(-15, 30):
                    wanted = None if stretch.low is None else len([i for i in members if i < number])
                    self.same(stretch.below(number, r, p), wanted)

    def test_left_out_and_by_name(self):
        some = Stretch(-3, 8)
        self.assertEqual((some.count(), some.first(), some.final(), some.nth(4), some.below(1)), (11, -3, 7, 1, 4))
        self.assertEqual(some.count(1), 11)
        self.assertEqual((some.count(p=4), some.count(p=4, r=3), some.count(r=5, p=6)), (2, 3, 2))
        self.assertEqual((some.first(p=3, r=1), some.final(p=3, r=2)), (-2, 5))
        self.assertEqual(some.nth(p=3, r=1, n=1), 1)
        self.assertEqual(some.below(p=3, r=1, number=4), 2)

    def test_great_numbers(self):
        great = Stretch(0, 7 * GREAT)
        self.assertEqual(great.count(3, 7), GREAT)
        self.assertEqual(great.nth(GREAT - 1, 3, 7), 7 * GREAT - 4)
        self.assertIsNone(great.nth(GREAT, 3, 7))
        self.assertEqual(great.below(7 * GREAT - 4, 3, 7), GREAT - 1)
        self.assertEqual(great.below(9 * GREAT, 3, 7), GREAT)
        self.assertEqual(Stretch(-GREAT, GREAT).count(), 2 * GREAT)
        self.assertEqual(Stretch(-GREAT).first(1, GREAT), 1 - GREAT)
        self.assertEqual(Stretch(None, -GREAT).final(GREAT - 1, GREAT), -GREAT - 1)
        self.assertEqual(Stretch(-GREAT).nth(GREAT), 0)

    def test_wrong_numbers(self):
        some = Stretch(-3, 8)
        for value in NO_INTEGERS:
            self.bears(BadNumber, "number", value, some.moved, value)
            for method in (some.count, some.first, some.final):
                self.bears(BadNumber, "number", value, method, value)
                self.bears(BadNumber, "number", value, method, value, 0)
                self.bears(BadNumber, "number", value, method, 0, value)
                self.bears(BadNumber, "number", value, method, p=value)
            for method in (some.nth, some.below):
                self.bears(BadNumber, "number", value, method, value, "r", 0)
                self.bears(BadNumber, "number", value, method, 0, value, 0)
                self.bears(BadNumber, "number", value, method, 0, 0, value)
        for p in (0, -1, -GREAT):
            for method in (some.count, some.first, some.final, Stretch().count, Stretch().first, Stretch().final):
                self.bears(BadNumber, "number", p, method, 0, p)
            for method in (some.nth, some.below, Stretch().nth, Stretch().below):
                self.bears(BadNumber, "number", p, method, 0, 0, p)
        for n in (-1, -GREAT):
            self.bears(BadNumber, "number", n, some.nth, n)
            self.bears(BadNumber, "number", n, Stretch().nth, n, None, 0)
            self.same(some.below(n), 2 if n == -1 else 0)


if __name__ == "__main__":
    unittest.main()
