"""Counts of colours in regions, richest rows and longest runs."""

import unittest

from endlessplane.carpets import Carpet, plain
from endlessplane.counts import count_of, counts_of, longest_run, richest_row, row_count
from endlessplane.cuts import cells_of, size_of
from endlessplane.regions import Region
from tests.helpers import (
    CELLS, CHESS, COLUMNS, GREAT, SLANTED, THREE, PlaneCase, cells_with, some_carpets, some_regions, stairs,
)

RIGHT = {"carpet": CHESS, "region": THREE, "colour": 0}
CARPETS = some_carpets(71, 18, [1, 2, 3, 4, 5], "0012") + [CHESS, COLUMNS, plain(0), plain(2)]
FINITE = some_regions(72, 18) + [Region(), THREE]
ENDLESS = some_regions(73, 30, [None] * 4) + [~Region(), ~THREE]

# A carpet with one cell of the colour 1 in its 144 places, of which only (12, 0) and (0, 12) are shifts.
SQUARE = Carpet(12, 0, 12, ["0" * 12] * 11 + ["0" * 11 + "1"])


def richest_by_hand(cells):
    """The richest row of these cells."""
    rows = [y for _, y in cells]
    best = max(rows, key=lambda y: (rows.count(y), -y), default=None)
    return (rows.count(best), best)


def longest_by_hand(cells):
    """The longest run of these cells."""
    runs = []
    for x, y in cells:
        if (x - 1, y) not in cells:
            length = 1
            while (x + length, y) in cells:
                length += 1
            runs.append((length, (x, y)))
    return max(runs, key=lambda run: run[0], default=(0, None))


class CountTest(PlaneCase):
    def test_example(self):
        self.same(counts_of(CHESS, THREE), [5, 4, 0, 0, 0, 0, 0, 0, 0, 0])
        self.same(count_of(colour=1, region=THREE, carpet=CHESS), 4)
        self.same(counts_of(region=THREE, carpet=CHESS)[0], 5)

    def test_finite(self):
        for carpet in CARPETS:
            for region in FINITE:
                colours = [carpet.colour(cell) for cell in cells_of(region)]
                counts = [colours.count(colour) for colour in range(10)]
                self.same(counts_of(carpet, region), counts)
                self.same([count_of(carpet, region, colour) for colour in range(10)], counts)
                self.assertEqual(sum(counts), size_of(region))

    def test_endless(self):
        # With lattices of up to twenty rows and columns a colour comes within this window, or never.
        window = [(x, y) for y in range(-40, 40) for x in range(-40, 40)]
        for carpet in CARPETS[::3]:
            cells = {}
            for cell in window:
                cells.setdefault(carpet.colour(cell), []).append(cell)
            for region in ENDLESS[::2]:
                for colour in range(4):
                    had = [cell for cell in cells.get(colour, []) if cell in region]
                    endless = any(abs(x) > 9 or abs(y) > 9 for x, y in had)
                    self.same(count_of(carpet, region, colour), None if endless else len(had))

    def test_none_and_numbers(self):
        rows = Carpet(1, 0, 2, ["0", "1"])
        self.assertIsNone(count_of(rows, Region([(None, 5, 0, 1)]), 0))
        self.same(count_of(rows, Region([(None, 5, 0, 1)]), 1), 0)
        self.same(count_of(rows, Region([(5, None, 0, 1), (0, 9, 1, 2)]), 1), 9)
        self.assertIsNone(count_of(rows, Region([(5, None, 0, 2), (0, 9, 1, 2)]), 1))
        self.same(count_of(COLUMNS, Region([(0, 1, None, 7)]), 1), 0)
        self.assertIsNone(count_of(COLUMNS, Region([(0, 1, 7, None)]), 0))
        self.same(count_of(COLUMNS, Region([(0, 1, 7, None), (1, 2, 0, 4), (-4, 4, -9, -7)]), 1), 12)
        self.same(counts_of(COLUMNS, Region([(0, 1, 7, None)])), [None] + [0] * 9)
        self.same(counts_of(plain(4), ~Region()), [0] * 4 + [None] + [0] * 5)
        self.same(counts_of(plain(4), Region()), [0] * 10)
        # A narrow column meets the slanted cells at last, a row that is short never needs to.
        self.assertIsNone(count_of(SLANTED, Region([(0, 1, None, 0)]), 1))
        self.assertIsNone(count_of(SLANTED, Region([(0, None, 0, 1)]), 1))
        self.assertIsNone(count_of(SQUARE, Region([(11, 12, 0, None)]), 1))
        self.same(count_of(SQUARE, Region([(0, 11, 0, None), (-1, 0, -1, 0)]), 1), 1)
        self.same(count_of(SQUARE, Region([(None, None, 0, 11), (0, 36, 11, 12)]), 1), 3)

    def test_great_numbers(self):
        great = 10 ** 30
        self.same(count_of(SQUARE, Region([(0, 12 * great, 0, 12 * great)]), 1), great * great)
        self.same(count_of(SLANTED, Region([(-great, 143 * great, 5, 149)]), 1), 144 * great)
        self.same(count_of(CHESS, Region([(0, GREAT + 1, 0, GREAT + 1)]), 0), (GREAT + 1) ** 2 // 2 + 1)
        self.same(count_of(CHESS, Region([(-GREAT - 1, 0, -GREAT - 1, 0)]), 1), (GREAT + 1) ** 2 // 2)
        for carpet in CARPETS:
            # By even parts: a multiple of the rows and columns that come again, and what is left over.
            x, y = 60 * 12 * great, 60 * 12 * great
            shares = carpet.shares()
            small = counts_of(carpet, Region([(-3, 2, -4, 1)]))
            moved = counts_of(carpet, Region([(-3 - x, 2 - x, -4 + y, 1 + y)]))
            self.same(moved, small)
            wide = counts_of(carpet, Region([(-3 - x, 2 - x, -4 + y, 1 + y), (-x, x, 1 + y, 1 + 3 * y)]))
            area = carpet.least().area()
            self.same(wide, [few + 4 * x * y // area * share for few, share in zip(small, shares)])

    def test_two_regions(self):
        for carpet in CARPETS[::4]:
            for one, other in zip(FINITE, FINITE[1:]):
                for colour in range(3):
                    both = count_of(carpet, one | other, colour) + count_of(carpet, one & other, colour)
                    self.same(both, count_of(carpet, one, colour) + count_of(carpet, other, colour))

    def test_even_boxes(self):
        for carpet in CARPETS:
            a, d = carpet.least().a, carpet.least().d
            for x, y in ((0, 0), (-5, 3), (GREAT, -GREAT)):
                box = Region([(x, x + 3 * a, y, y + 2 * d)])
                self.same(counts_of(carpet, box), [6 * share for share in carpet.shares()])

    def test_more_than_forty_boxes(self):
        region = stairs()
        for carpet in CARPETS[::5] + [SLANTED]:
            for colour in (0, 1):
                self.same(count_of(carpet, region, colour), len(cells_with(carpet, region, colour)))

    def test_every_returned_list_is_new(self):
        counts_of(CHESS, THREE).clear()
        self.same(counts_of(CHESS, THREE)[:2], [5, 4])

    def test_wrong_arguments(self):
        self.refuses(count_of, RIGHT)
        self.refuses(count_of, {**RIGHT, "region": ~THREE})
        self.refuses(counts_of, {"carpet": CHESS, "region": THREE})


class RichestRowTest(PlaneCase):
    def test_by_hand(self):
        for carpet in CARPETS:
            for region in FINITE:
                for colour in range(4):
                    self.same(richest_row(carpet, region, colour), richest_by_hand(cells_with(carpet, region, colour)))
        self.same(richest_row(colour=0, carpet=CHESS, region=THREE), (2, 0))

    def test_edges(self):
        self.same(richest_row(CHESS, Region(), 0), (0, None))
        self.same(richest_row(CHESS, THREE, 2), (0, None))
        self.same(richest_row(Carpet(1, 0, 2, ["0", "1"]), Region([(0, 9, 0, 1), (0, 2, 4, 8)]), 1), (2, 5))
        self.same(richest_row(CHESS, Region([(0, 3, 0, 1), (0, 3, 1, 2)]), 1), (2, 1))

    def test_great_numbers(self):
        great = 10 ** 30
        self.same(richest_row(SQUARE, Region([(0, 24, -great, great)]), 1), (2, 11 - (great + 11) // 12 * 12))
        self.same(richest_row(SLANTED, Region([(143, 144, 1, great)]), 1), (1, 144))
        self.same(richest_row(SLANTED, Region([(143, 144, 1, 144)]), 1), (0, None))
        self.same(richest_row(CHESS, Region([(1, 2 * great, -great, great)]), 0), (great, 1 - great))
        self.same(richest_row(plain(3), Region([(0, great, 0, 5), (0, 2, 5, 9), (-1, great, 7, 9)]), 3), (great + 1, 7))

    def test_wrong_arguments(self):
        self.refuses(richest_row, RIGHT)
        self.asks_for_an_end(richest_row, RIGHT)


class LongestRunTest(PlaneCase):
    def test_by_hand(self):
        for carpet in CARPETS:
            for region in FINITE:
                for colour in range(4):
                    self.same(longest_run(carpet, region, colour), longest_by_hand(cells_with(carpet, region, colour)))
        self.same(longest_run(colour=1, region=THREE, carpet=CHESS), (1, (1, 0)))

    def test_cut_at_the_sides(self):
        row = Carpet(7, 0, 1, ["1110110"])
        for x0 in range(-8, 8):
            for x1 in range(x0 + 1, x0 + 24):
                region = Region([(x0, x1, 5, 6)])
                for colour in (0, 1):
                    self.same(longest_run(row, region, colour), longest_by_hand(cells_with(row, region, colour)))

    def test_edges(self):
        self.same(longest_run(CHESS, Region(), 0), (0, None))
        self.same(longest_run(CHESS, THREE, 2), (0, None))
        # Stretches of one length, and two that touch in another row only.
        self.same(longest_run(plain(1), Region([(0, 3, 0, 1), (5, 8, 0, 1), (3, 5, 1, 2)]), 1), (3, (0, 0)))
        self.same(longest_run(plain(1), Region([(0, 3, 0, 1), (5, 9, 0, 1)]), 1), (4, (5, 0)))
        self.same(longest_run(plain(1), Region([(0, 3, 0, 1), (-9, -6, 1, 2)]), 1), (3, (0, 0)))

    def test_great_numbers(self):
        great = 10 ** 30
        cross = Region([(0, 5, -great, great), (-great, great, 7, 9)])
        self.same(longest_run(plain(8), cross, 8), (2 * great, (-great, 7)))
        self.same(longest_run(SQUARE, Region([(1, great, 11, great)]), 0), (great - 1, (1, 12)))
        self.same(longest_run(SQUARE, Region([(1, great, 11, 12)]), 0), (11, (12, 11)))
        self.same(longest_run(SQUARE, Region([(1, great, 11, 12)]), 1), (1, (11, 11)))
        self.same(longest_run(SLANTED, Region([(-great, great, 0, 1)]), 0), (143, (144 - great // 144 * 144 - 144, 0)))
        self.same(longest_run(Carpet(2, 0, 2, ["01", "00"]), Region([(0, 3, -great, 1), (9, 12, 0, great)]), 0)[0], 3)

    def test_wrong_arguments(self):
        self.refuses(longest_run, RIGHT)
        self.asks_for_an_end(longest_run, RIGHT)


class RowCountTest(PlaneCase):
    def test_finite(self):
        for carpet in CARPETS[::2]:
            for region in FINITE[::2]:
                for colour in range(3):
                    rows = [y for _, y in cells_with(carpet, region, colour)]
                    for y in range(-10, 11):
                        self.same(row_count(carpet, region, colour, y), rows.count(y))
        self.same(row_count(y=1, colour=1, region=THREE, carpet=CHESS), 2)

    def test_endless(self):
        for carpet in CARPETS[::3]:
            for region in ENDLESS[::2]:
                for y in (-10, -3, 0, 2, 10):
                    row = Region([(None, None, y, y + 1)])
                    for colour in range(3):
                        self.same(row_count(carpet, region, colour, y), count_of(carpet, region & row, colour))
        self.assertIsNone(row_count(CHESS, ~Region(), 0, GREAT))
        self.same(row_count(CHESS, ~Region(), 2, GREAT), 0)
        self.same(row_count(CHESS, Region([(0, 4, None, None)]), 1, GREAT), 2)
        self.same(row_count(Carpet(1, 0, 2, ["0", "1"]), ~Region(), 1, GREAT), 0)
        self.assertIsNone(row_count(Carpet(1, 0, 2, ["0", "1"]), ~Region(), 1, GREAT + 1))
        self.same(row_count(CHESS, Region(), 1, 0), 0)
        self.same(len([cell for cell in CELLS if cell[1] == 3 and CHESS.colour(cell) == 1]),
                  row_count(CHESS, Region([(-10, 11, None, None)]), 1, 3))

    def test_wrong_arguments(self):
        self.refuses(row_count, {**RIGHT, "y": 0})
        self.refuses(row_count, {**RIGHT, "region": ~THREE, "y": 0})


if __name__ == "__main__":
    unittest.main()
