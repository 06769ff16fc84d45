"""The n-th cells of a colour, and places of cells."""

import unittest

from endlessplane.carpets import plain
from endlessplane.counts import count_of
from endlessplane.cuts import cells_of
from endlessplane.nthcells import ahead_of, last_ahead, next_behind, nth_of_colour, place_in
from endlessplane.regions import Region
from tests.helpers import (
    CELLS, CHESS, COLUMNS, FAR, GREAT, SLANTED, SPARSE, THREE, PlaneCase, cells_with, some_carpets, some_regions,
)

RIGHT = {"carpet": CHESS, "region": THREE, "colour": 0}
CARPETS = some_carpets(81, 12, [1, 2, 3, 4, 5], "0012") + [CHESS, COLUMNS, plain(0)]
REGIONS = some_regions(82, 14) + [Region(), THREE]


def is_ahead(one, other):
    """Whether one cell is ahead of the other one, by y, then x."""
    return (one[1], one[0]) < (other[1], other[0])


class NthTest(PlaneCase):
    def test_by_hand(self):
        for carpet in CARPETS:
            for region in REGIONS:
                for colour in range(3):
                    wanted = cells_with(carpet, region, colour)
                    self.same([nth_of_colour(carpet, region, colour, n) for n in range(len(wanted))], wanted)
                    for n in (len(wanted), len(wanted) + 1, GREAT):
                        self.assertIsNone(nth_of_colour(carpet, region, colour, n))
        self.same(nth_of_colour(n=3, colour=0, region=THREE, carpet=CHESS), (0, 2))
        self.assertIsNone(nth_of_colour(CHESS, THREE, 5, 0))

    def test_great_numbers(self):
        great = 10 ** 30
        self.same(nth_of_colour(CHESS, Region([(0, great, 0, great)]), 1, great // 2), (0, 1))
        self.same(nth_of_colour(CHESS, Region([(-great, great, -great, great)]), 0, great), (1 - great, 1 - great))
        self.same(nth_of_colour(SLANTED, Region([(143, 144, 0, great)]), 1, 7), (143, 7 * 144))
        self.same(nth_of_colour(plain(2), Region([(0, great, 5, 6), (3, 4, 6, great)]), 2, great + 11), (3, 17))
        for carpet in CARPETS + [SLANTED, SPARSE]:
            for colour in (0, 1):
                many = count_of(carpet, FAR, colour)
                for n in (0, 1, 5, many // 7, many // 3, many // 2, many - 2, many - 1):
                    if not 0 <= n < many:
                        continue
                    cell = nth_of_colour(carpet, FAR, colour, n)
                    self.assertIs(cell in FAR, True)
                    self.same(carpet.colour(cell), colour)
                    self.same(place_in(carpet, FAR, cell), n)
                    self.same(ahead_of(carpet, FAR, colour, cell), n)
                    self.same(next_behind(carpet, FAR, colour, cell), nth_of_colour(carpet, FAR, colour, n + 1))
                    before = nth_of_colour(carpet, FAR, colour, n - 1) if n > 0 else None
                    self.same(last_ahead(carpet, FAR, colour, cell), before)
                self.assertIsNone(nth_of_colour(carpet, FAR, colour, many))

    def test_wrong_arguments(self):
        self.refuses(nth_of_colour, {**RIGHT, "n": 0})
        self.asks_for_an_end(nth_of_colour, {**RIGHT, "n": 0}, ["n"])


class PlaceTest(PlaneCase):
    def test_by_hand(self):
        for carpet in CARPETS[::2]:
            for region in REGIONS[::2]:
                cells = list(cells_of(region))
                for cell in CELLS[::13]:
                    colour = carpet.colour(cell)
                    like = [other for other in cells if carpet.colour(other) == colour]
                    self.same(place_in(carpet, region, cell), like.index(cell) if cell in like else None)
                    for other in range(3):
                        self.beside(carpet, region, other, cell, cells)
        self.same(place_in(cell=(1, 1), region=THREE, carpet=CHESS), 2)
        self.same(ahead_of(cell=(1, 1), colour=1, region=THREE, carpet=CHESS), 2)
        self.same(next_behind(cell=(1, 1), colour=0, region=THREE, carpet=CHESS), (0, 2))
        self.same(last_ahead(cell=(1, 1), colour=0, region=THREE, carpet=CHESS), (2, 0))

    def beside(self, carpet, region, colour, cell, cells):
        """Check what is ahead of a cell and behind it."""
        like = [other for other in cells if carpet.colour(other) == colour]
        ahead = [other for other in like if is_ahead(other, cell)]
        behind = [other for other in like if is_ahead(cell, other)]
        self.same(ahead_of(carpet, region, colour, cell), len(ahead))
        self.same(last_ahead(carpet, region, colour, cell), ahead[-1] if ahead else None)
        self.same(next_behind(carpet, region, colour, cell), behind[0] if behind else None)

    def test_cells_that_the_region_does_not_have(self):
        self.assertIsNone(place_in(CHESS, THREE, (3, 0)))
        self.assertIsNone(place_in(CHESS, THREE, (0, -1)))
        self.assertIsNone(place_in(CHESS, Region(), (0, 0)))
        self.same(ahead_of(CHESS, THREE, 0, (GREAT, 0)), 2)
        self.same(ahead_of(CHESS, THREE, 0, (-GREAT, 1)), 2)
        self.same(ahead_of(CHESS, THREE, 0, (0, GREAT)), 5)
        self.same(ahead_of(CHESS, THREE, 0, (0, -GREAT)), 0)
        self.same(next_behind(CHESS, THREE, 1, (-GREAT, -GREAT)), (1, 0))
        self.assertIsNone(next_behind(CHESS, THREE, 1, (2, 2)))
        self.assertIsNone(last_ahead(CHESS, THREE, 0, (0, 0)))
        self.same(last_ahead(CHESS, THREE, 1, (GREAT, GREAT)), (1, 2))
        self.assertIsNone(next_behind(CHESS, Region(), 0, (0, 0)))
        self.assertIsNone(last_ahead(CHESS, Region(), 0, (0, 0)))
        self.assertIsNone(next_behind(CHESS, THREE, 7, (0, 0)))
        self.assertIsNone(last_ahead(CHESS, THREE, 7, (GREAT, GREAT)))

    def test_wrong_arguments(self):
        right = {**RIGHT, "cell": (0, 0)}
        for function in (ahead_of, next_behind, last_ahead):
            self.refuses(function, right)
            self.asks_for_an_end(function, right, ["cell"])
        right = {"carpet": CHESS, "region": THREE, "cell": (0, 0)}
        self.refuses(place_in, right)
        self.asks_for_an_end(place_in, right, ["cell"])


if __name__ == "__main__":
    unittest.main()
