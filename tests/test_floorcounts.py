"""Counts of colours on floors, n-th cells and places."""

import unittest

from endlessplane.carpets import plain
from endlessplane.counts import count_of
from endlessplane.cuts import cells_of, size_of
from endlessplane.floorcounts import census, floor_count, floor_nth, floor_place
from endlessplane.floors import Floor
from endlessplane.nthcells import nth_of_colour, place_in
from endlessplane.regions import Region
from tests.helpers import (
    CELLS, CHESS, COLUMNS, FAR, GREAT, SLANTED, SPARSE, THREE, PlaneCase, some_floors, some_regions, stairs,
)

TWO = Region([(0, 2, 0, 2)])
EXAMPLE = Floor(plain(0), [(TWO, CHESS)])
AROUND = Region([(-1, 3, -1, 3)])
FLOORS = some_floors(111, 14, (), "0012") + some_floors(112, 14, [None] * 4, "0012") + [EXAMPLE]
RIGHT = {"floor": EXAMPLE, "region": AROUND, "colour": 1}


def coloured(floor, region, colour):
    """The cells of the colour on the floor in a finite region, by y, then x."""
    return [cell for cell in cells_of(region) if floor.colour(cell) == colour]


class CountTest(PlaneCase):
    def test_example(self):
        self.same(census(EXAMPLE, AROUND), (14, 2, 0, 0, 0, 0, 0, 0, 0, 0))
        self.same(census(region=AROUND, floor=EXAMPLE)[:3], (14, 2, 0))
        self.same(floor_count(EXAMPLE, AROUND, 1), 2)
        self.same(floor_count(colour=0, region=AROUND, floor=EXAMPLE), 14)

    def test_finite(self):
        for floor in FLOORS:
            for region in some_regions(113, 4) + [Region(), THREE]:
                colours = [floor.colour(cell) for cell in cells_of(region)]
                counts = tuple(colours.count(colour) for colour in range(10))
                self.same(census(floor, region), counts)
                self.same(sum(census(floor, region)), size_of(region))
                self.same(tuple(floor_count(floor, region, colour) for colour in range(10)), counts)

    def test_endless(self):
        # Carpets that come again after six cells, regions that end within 8: what has no end shows beyond 9.
        window = [(x, y) for y in range(-22, 23) for x in range(-22, 23)]
        endless, ends = 0, 0
        for floor in FLOORS[::2]:
            colours = {cell: floor.colour(cell) for cell in window}
            for region in some_regions(114, 8, [None] * 3) + [~Region(), ~THREE]:
                for colour in range(4):
                    had = [cell for cell in window if colours[cell] == colour and cell in region]
                    none = any(abs(x) > 9 or abs(y) > 9 for x, y in had)
                    self.same(floor_count(floor, region, colour), None if none else len(had))
                    self.same(census(floor, region)[colour], None if none else len(had))
                    endless, ends = endless + none, ends + (not none and len(had) > 0)
        self.assertGreater(endless, 30)
        self.assertGreater(ends, 20)

    def test_none_and_numbers(self):
        floor = Floor(plain(3), [(~TWO, plain(4)), (Region([(9, None, 9, None)]), plain(5))])
        self.same(census(floor, ~Region()), (0, 0, 0, 4, None, None, 0, 0, 0, 0))
        self.same(census(floor, Region([(None, None, 0, 9)]))[3:6], (4, None, 0))
        self.same(census(floor, Region([(1, 12, 1, 12)]))[3:6], (1, 111, 9))
        floor = Floor(plain(3), [(Region([(None, None, 1, None), (None, None, None, 0)]), plain(4))])
        self.same(floor_count(floor, Region([(0, 7, None, None)]), 3), 7)

    def test_great_numbers(self):
        great = 10 ** 30
        floor = Floor(CHESS, [(Region([(0, 2 * great, 0, great)]), COLUMNS), (Region([(1, 2, None, None)]), plain(7))])
        region = Region([(-great, great, -5, great)])
        # The ground in its 5 rows below and on the left, the columns, and the sevens of one column.
        sevens = great + 5
        zeros = 5 * great + great * great // 2 + great * great // 2 - 3
        self.same(floor_count(floor, region, 7), sevens)
        self.same(floor_count(floor, region, 0), zeros)
        self.same(sum(census(floor, region)), size_of(region))
        self.same(floor_count(floor, Region([(-GREAT, 0, -GREAT, GREAT)]), 1), GREAT * GREAT)

    def test_layer_laid(self):
        for floor in FLOORS[::3]:
            if len(floor) == 6:
                continue
            for layer in some_regions(115, 4, [None]):
                for region in some_regions(116, 5):
                    both = layer & region
                    for colour in range(3):
                        former = floor_count(floor, region, colour) - floor_count(floor, both, colour)
                        self.same(floor_count(floor.laid_on(layer, SLANTED), region, colour),
                                  former + count_of(SLANTED, both, colour))

    def test_without_layers(self):
        for carpet in (CHESS, SLANTED, SPARSE):
            for region in some_regions(117, 6) + [FAR, stairs()]:
                for colour in (0, 1):
                    many = count_of(carpet, region, colour)
                    self.same(floor_count(Floor(carpet), region, colour), many)
                    for n in (0, 1, many // 2, max(0, many - 1), many):
                        cell = nth_of_colour(carpet, region, colour, n)
                        self.same(floor_nth(Floor(carpet), region, colour, n), cell)

    def test_wrong_arguments(self):
        self.refuses(floor_count, RIGHT)
        self.refuses(floor_count, {**RIGHT, "region": ~AROUND})
        self.refuses(census, {"floor": EXAMPLE, "region": AROUND})


class NthTest(PlaneCase):
    def test_example(self):
        self.same([floor_nth(EXAMPLE, AROUND, 1, n) for n in range(4)], [(1, 0), (0, 1), None, None])
        self.same(floor_nth(n=1, colour=1, region=AROUND, floor=EXAMPLE), (0, 1))
        self.same(floor_place(cell=(0, 1), colour=1, region=AROUND, floor=EXAMPLE), 1)
        self.assertIsNone(floor_place(EXAMPLE, AROUND, 0, (0, 1)))
        self.assertIsNone(floor_place(EXAMPLE, TWO, 0, (2, 1)))

    def test_by_hand(self):
        for floor in FLOORS[::2]:
            for region in some_regions(118, 3) + [THREE]:
                for colour in range(4):
                    cells = coloured(floor, region, colour)
                    for n, cell in list(enumerate(cells))[::3] + list(enumerate(cells))[-1:]:
                        self.same(floor_nth(floor, region, colour, n), cell)
                        self.same(floor_place(floor, region, colour, cell), n)
                    self.assertIsNone(floor_nth(floor, region, colour, len(cells)))
                    self.assertIsNone(floor_nth(floor, region, colour, len(cells) + GREAT))

    def test_cells_of_another_colour_or_out_of_the_region(self):
        for floor in FLOORS[::4]:
            for region in some_regions(119, 3):
                for colour in range(3):
                    had = coloured(floor, region, colour)
                    for cell in CELLS[::5]:
                        if cell not in had:
                            self.assertIsNone(floor_place(floor, region, colour, cell))

    def test_great_numbers(self):
        great = 10 ** 30
        floor = Floor(SLANTED, [(FAR, CHESS), (Region([(None, 0, None, None)]), SPARSE), (THREE, plain(1))])
        region = FAR | Region([(-144 * great, great, great, great + 2)])
        for colour in (0, 1):
            many = floor_count(floor, region, colour)
            for n in (0, 1, 5, many // 3, many // 2, many - 2, many - 1, 7 * 10 ** 29):
                cell = floor_nth(floor, region, colour, n)
                self.assertIn(cell, region)
                self.same(floor.colour(cell), colour)
                self.same(floor_place(floor, region, colour, cell), n)
            self.assertIsNone(floor_nth(floor, region, colour, many))

    def test_one_row_and_one_column(self):
        floor = Floor(plain(0), [(Region([(5, None, None, None)]), COLUMNS), (Region([(None, -5, None, None)]), CHESS)])
        row = Region([(-GREAT, GREAT, 7, 8)])
        # On the left the cells with x - 7 odd, on the right those with x odd.
        self.same(floor_nth(floor, row, 1, 0), (-GREAT, 7))
        self.same(floor_nth(floor, row, 1, GREAT // 2 - 3), (-6, 7))
        self.same(floor_nth(floor, row, 1, GREAT // 2 - 2), (5, 7))
        column = Region([(-8, -7, -GREAT, GREAT)])
        self.same(floor_nth(floor, column, 1, GREAT // 2), (-8, 1))
        self.same(floor_place(floor, column, 1, (-8, GREAT - 1)), GREAT - 1)

    def test_beside_place_in(self):
        for region in some_regions(120, 6):
            for cell in cells_of(region):
                self.same(floor_place(Floor(CHESS), region, CHESS.colour(cell), cell), place_in(CHESS, region, cell))

    def test_wrong_arguments(self):
        right = {**RIGHT, "n": 0}
        self.refuses(floor_nth, right)
        self.asks_for_an_end(floor_nth, right, ["n"])
        right = {**RIGHT, "cell": (1, 0)}
        self.refuses(floor_place, right)
        self.asks_for_an_end(floor_place, right, ["cell"])


if __name__ == "__main__":
    unittest.main()
