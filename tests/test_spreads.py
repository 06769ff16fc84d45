"""Spreads."""

import random
import unittest

from endlessplane.errors import BadIndex, BadNumber, BadPart
from endlessplane.stretches import Spread, Stretch
from tests.helpers import GREAT, NO_INTEGERS, PlaneCase

# Ends lie from -10 to 10, so what holds -30 or 30 has no end there.
WINDOW = range(-30, 31)
REMAINDERS = [(0, 1), (1, 2), (-1, 3), (6, 4), (3, 13)]


def some_stretches(chance, many):
    """Up to so many stretches by chance, with and without ends."""
    row = []
    for _ in range(chance.randrange(many + 1)):
        low = chance.choice([None] + list(range(-10, 10)) * 2)
        high = chance.choice([None] + list(range(-9, 11)) * 2)
        if low is None or high is None or low < high:
            row.append(Stretch(low, high))
    return row


def row_of(held):
    """The told row, as pairs, of the integers of the window, told by a dict of truths."""
    row = []
    for i in WINDOW:
        if held[i] and not (row and row[-1][1] == i):
            row.append((i, i + 1))
        elif held[i]:
            row[-1] = (row[-1][0], i + 1)
    return [(None if low == -30 else low, None if high == 31 else high) for low, high in row]


def pairs_of(spread):
    """The told row of a spread as pairs."""
    return [(stretch.low, stretch.high) for stretch in spread.told()]


def held_by(stretches):
    """Which integers of the window some stretches have, told one by one."""
    return {i: any((one.low is None or one.low <= i) and (one.high is None or i < one.high) for one in stretches)
            for i in WINDOW}


class SpreadTest(PlaneCase):
    def setUp(self):
        chance = random.Random(11)
        self.rows = [some_stretches(chance, 5) for _ in range(60)]
        self.spreads = [Spread(row) for row in self.rows]

    def test_told(self):
        for row, spread in zip(self.rows, self.spreads):
            self.assertEqual(pairs_of(spread), row_of(held_by(row)))
            self.assertEqual(pairs_of(Spread(tuple(reversed(row)))), pairs_of(spread))
            for stretch in spread.told():
                self.assertIsInstance(stretch, Stretch)
        self.assertIsInstance(Spread().told(), list)
        self.assertEqual(Spread().told(), [])
        self.assertEqual(Spread(stretches=[Stretch(1, 2)]).told(), [Stretch(1, 2)])

    def test_touching_overlapping_apart(self):
        self.assertEqual(pairs_of(Spread([Stretch(0, 4), Stretch(4, 6)])), [(0, 6)])
        self.assertEqual(pairs_of(Spread([Stretch(4, 6), Stretch(0, 4)])), [(0, 6)])
        self.assertEqual(pairs_of(Spread([Stretch(0, 4), Stretch(5, 6)])), [(0, 4), (5, 6)])
        self.assertEqual(pairs_of(Spread([Stretch(0, 9), Stretch(2, 3), Stretch(8, 10)])), [(0, 10)])
        self.assertEqual(pairs_of(Spread([Stretch(None, 3), Stretch(3)])), [(None, None)])
        self.assertEqual(pairs_of(Spread([Stretch(None, 3), Stretch(4)])), [(None, 3), (4, None)])
        self.assertEqual(pairs_of(Spread([Stretch(0), Stretch(2, 5), Stretch(7)])), [(0, None)])
        self.assertEqual(pairs_of(Spread([Stretch(None, 7), Stretch(2, 5), Stretch(None, 1)])), [(None, 7)])
        self.assertEqual(pairs_of(Spread([Stretch(0, 9), Stretch(0, 3), Stretch(0, 12)])), [(0, 12)])
        self.assertEqual(
            pairs_of(Spread([Stretch(GREAT, GREAT + 1), Stretch(-GREAT, GREAT)])), [(-GREAT, GREAT + 1)])

    def test_nothing_is_kept(self):
        row = [Stretch(0, 2), Stretch(5, 7)]
        spread = Spread(row)
        row.append(Stretch(9))
        row[0] = Stretch(20, 30)
        told = spread.told()
        told.clear()
        self.assertEqual(pairs_of(spread), [(0, 2), (5, 7)])
        self.assertEqual(len(row), 3)

    def test_made_wrongly(self):
        for value in (None, True, 5, "", Stretch(), Spread(), {}, {0: Stretch()}):
            self.bears(BadPart, "part", "stretches", Spread, value)
        for value in (None, True, 5, (0, 1), Spread(), [Stretch()]):
            self.bears(BadIndex, "index", 0, Spread, [value])
            self.bears(BadIndex, "index", 2, Spread, [Stretch(), Stretch(1), value, value])
            self.bears(BadIndex, "index", 1, Spread, stretches=(Stretch(), value, Stretch()))

    def test_put_together(self):
        for one in self.spreads:
            for other in self.spreads:
                for spread, held in (
                        (one | other, lambda i: one.holds(i) or other.holds(i)),
                        (one & other, lambda i: one.holds(i) and other.holds(i)),
                        (one - other, lambda i: one.holds(i) and not other.holds(i))):
                    self.assertIsInstance(spread, Spread)
                    self.assertEqual(pairs_of(spread), row_of({i: held(i) for i in WINDOW}))

    def test_put_together_with_others(self):
        some = Spread([Stretch(0, 5)])
        for value in (None, True, 5, (), [Stretch()], {}, Stretch(0, 5)):
            for action in (lambda: some | value, lambda: some & value, lambda: some - value,
                           lambda: value | some, lambda: value & some, lambda: value - some):
                with self.assertRaises(TypeError):
                    action()

    def test_all_but(self):
        for spread in self.spreads:
            self.assertEqual(pairs_of(spread.all_but()), row_of({i: not spread.holds(i) for i in WINDOW}))
            self.assertEqual(spread.all_but().all_but(), spread)
        self.assertEqual(pairs_of(Spread().all_but()), [(None, None)])
        self.assertEqual(pairs_of(Spread([Stretch()]).all_but()), [])

    def test_holds(self):
        for row, spread in zip(self.rows, self.spreads):
            held = held_by(row)
            for i in WINDOW:
                self.assertIs(spread.holds(i), held[i])
            for value in NO_INTEGERS:
                self.assertIs(spread.holds(value), False)
        self.assertIs(Spread([Stretch(0, 5)]).holds(number=4), True)

    def test_moved_and_turned(self):
        for spread in self.spreads:
            held = {i: spread.holds(i) for i in range(-40, 41)}
            self.assertEqual(pairs_of(spread.moved(9)), row_of({i: held[i - 9] for i in WINDOW}))
            self.assertEqual(pairs_of(spread.moved(by=-4)), row_of({i: held[i + 4] for i in WINDOW}))
            self.assertEqual(pairs_of(spread.turned()), row_of({i: held[-i] for i in WINDOW}))
        self.assertEqual(pairs_of(Spread([Stretch(GREAT)]).moved(-GREAT)), [(0, None)])
        for value in NO_INTEGERS:
            self.bears(BadNumber, "number", value, Spread([Stretch(0, 5)]).moved, value)
            self.bears(BadNumber, "number", value, Spread().moved, value)

    def test_within_and_equal(self):
        some = self.spreads + [one & other for one in self.spreads[:12] for other in self.spreads[:12]]
        for one in some[::3]:
            for other in some:
                within = all(other.holds(i) for i in WINDOW if one.holds(i))
                self.assertIs(one <= other, within)
                alike = all(other.holds(i) == one.holds(i) for i in WINDOW)
                self.assertIs(one == other, alike)
                self.assertIs(one != other, not alike)
        for value in (None, 5, [Stretch(0, 5)], Stretch(0, 5), Stretch()):
            self.assertIs(Spread([Stretch(0, 5)]) <= value, False)
            self.assertIs(Spread() <= value, False)
        self.unlike_all(Spread([Stretch(0, 5)]))
        self.unlike_all(Spread())
        self.assertIs(Spread([Stretch(0, 5)]) == Stretch(0, 5), False)

    def test_ends(self):
        for spread in self.spreads:
            below, above = spread.holds(-30), spread.holds(30)
            members = [i for i in WINDOW if spread.holds(i)]
            self.assertIs(spread.is_endless(), below or above)
            low = members[0] if members and not below else None
            high = members[-1] + 1 if members and not above else None
            self.same(spread.bounds(), (low, high))
        self.assertEqual(Spread().bounds(), (None, None))
        self.assertIs(Spread().is_endless(), False)
        self.assertEqual(Spread([Stretch(0, 3), Stretch(7, GREAT)]).bounds(), (0, GREAT))

    def test_no_iteration(self):
        self.no_iteration(Spread([Stretch(0, 5)]))


class MembersTest(PlaneCase):
    def setUp(self):
        chance = random.Random(12)
        self.spreads = [Spread(some_stretches(chance, 5)) for _ in range(60)]
        self.spreads = self.spreads + [Spread()]

    def test_count_first_final(self):
        for spread in self.spreads:
            for r, p in REMAINDERS:
                members = [i for i in WINDOW if spread.holds(i) and (i - r) % p == 0]
                below, above = spread.holds(-30), spread.holds(30)
                self.same(spread.count(r, p), None if below or above else len(members))
                self.same(spread.first(r, p), members[0] if members and not below else None)
                self.same(spread.final(r, p), members[-1] if members and not above else None)

    def test_nth_and_below(self):
        for spread in self.spreads:
            for r, p in REMAINDERS:
                members = [i for i in range(-30, 200) if spread.holds(i) and (i - r) % p == 0]
                for n in range(10):
                    endless = spread.holds(-30)
                    self.same(spread.nth(n, r, p), members[n] if n < len(members) and not endless else None)
                for number in range(-12, 16, 3):
                    ahead = len([i for i in members if i < number])
                    self.same(spread.below(number, r, p), None if spread.holds(-30) else ahead)

    def test_left_out_and_by_name(self):
        some = Spread([Stretch(0, 6), Stretch(9, 12)])
        self.assertEqual((some.count(), some.first(), some.final(), some.nth(7), some.below(10)), (9, 0, 11, 10, 7))
        self.assertEqual((some.count(p=4, r=1), some.count(5), some.count(p=4)), (3, 9, 2))
        self.assertEqual((some.first(p=4, r=1), some.final(p=4, r=1)), (1, 9))
        self.assertEqual((some.nth(p=4, r=1, n=2), some.below(p=4, r=1, number=9)), (9, 2))
        self.same(Spread().below(5), 0)
        self.same(Spread().count(), 0)
        self.assertIsNone(Spread().nth(0))

    def test_a_stretch_without_members(self):
        some = Spread([Stretch(1, 2), Stretch(3, 4), Stretch(5, 9)])
        self.assertEqual((some.first(0, 2), some.nth(1, 0, 2), some.count(0, 2), some.final(1, 8)), (6, 8, 2, 1))

    def test_great_numbers(self):
        some = Spread([Stretch(0, GREAT), Stretch(3 * GREAT, 4 * GREAT), Stretch(9 * GREAT)])
        self.assertEqual(some.nth(GREAT + 5), 3 * GREAT + 5)
        self.assertEqual(some.nth(2 * GREAT, 0, 10), 9 * GREAT + (2 * GREAT - 2 * (GREAT // 10)) * 10)
        self.assertEqual(some.below(10 * GREAT), 3 * GREAT)
        self.assertEqual((some - Spread([Stretch(5 * GREAT)])).count(1, 10), 2 * (GREAT // 10))
        self.assertIsNone(some.count())

    def test_wrong_numbers(self):
        for some in (Spread(), Spread([Stretch(0, 5)]), Spread([Stretch()])):
            for value in NO_INTEGERS:
                for method in (some.count, some.first, some.final):
                    self.bears(BadNumber, "number", value, method, value, 0)
                    self.bears(BadNumber, "number", value, method, 0, value)
                for method in (some.nth, some.below):
                    self.bears(BadNumber, "number", value, method, value, "r", 0)
                    self.bears(BadNumber, "number", value, method, 0, value, 0)
                    self.bears(BadNumber, "number", value, method, 0, 0, value)
            for p in (0, -1, -GREAT):
                for method in (some.count, some.first, some.final):
                    self.bears(BadNumber, "number", p, method, 0, p)
                for method in (some.nth, some.below):
                    self.bears(BadNumber, "number", p, method, 0, 0, p)
            for n in (-1, -GREAT):
                self.bears(BadNumber, "number", n, some.nth, n, "r", 0)


if __name__ == "__main__":
    unittest.main()
