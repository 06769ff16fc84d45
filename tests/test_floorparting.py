"""Whether floors are of one colouring, cells that part them, and how many."""

import random
import unittest

from endlessplane.carpets import Carpet, plain
from endlessplane.cuts import cells_of, size_of
from endlessplane.errors import TooMany
from endlessplane.floorparting import (
    agree_in, are_alike, does_part, floor_parting, floor_parting_in, unlike_count,
)
from endlessplane.floors import Floor
from endlessplane.regions import Region
from tests.helpers import (
    CHESS, COLUMNS, GREAT, NO_PAIRS, SLANTED, SPARSE, THREE, Everything, PlaneCase, some_floors, some_regions, stairs,
)

TWO = Region([(0, 2, 0, 2)])
FLOORS = some_floors(121, 12, [None] * 4, "01", [1, 2]) + some_floors(122, 12, (), "001", [1, 2, 3])
PAIR = {"one": Floor(CHESS), "other": Floor(COLUMNS)}
KINDS = {"one": "floor", "other": "floor"}

# Regions end within 8, and carpets come again after six rows and columns: this window shows all there is.
WINDOW = [(x, y) for y in range(-16, 17) for x in range(-16, 17)]
COLOURS = [{cell: floor.colour(cell) for cell in WINDOW} for floor in FLOORS]

# Two carpets that cannot be laid.
TWELVE = Carpet(12, 0, 1, ["000000000001"])
TALLER = Carpet(1, 0, 13, ["0"] * 12 + ["1"])


def pairs_of_floors(step, other_step):
    """Pairs of floors, each with the list of the cells of the window that have unlike colours on both."""
    found = []
    for index in range(0, len(FLOORS), step):
        for other in range(0, len(FLOORS), other_step):
            unlike = [cell for cell in WINDOW if COLOURS[index][cell] != COLOURS[other][cell]]
            found.append((FLOORS[index], FLOORS[other], unlike))
    return found


class PartingTest(PlaneCase):
    def parts(self, one, other, region, cell):
        self.assertIs(cell in region, True)
        self.assertIs(does_part(one, other, cell), True)
        self.assertNotEqual(one.colour(cell), other.colour(cell))

    def test_cell_by_cell(self):
        alike = 0
        for one, other, unlike in pairs_of_floors(1, 1):
            self.assertIs(are_alike(one, other), not unlike)
            self.assertIs(one == other, not unlike)
            cell = floor_parting(other=other, one=one)
            if unlike:
                self.parts(one, other, ~Region(), cell)
            else:
                self.assertIsNone(cell)
                alike += one is not other
        self.assertGreater(alike, 0)

    def test_in_regions(self):
        agreeing, parting = 0, 0
        for one, other, unlike in pairs_of_floors(3, 2):
            for region in some_regions(123, 5, [None] * 2) + [Region(), TWO]:
                parted = any(cell in region for cell in unlike)
                self.assertIs(agree_in(one, other, region), not parted)
                cell = floor_parting_in(region=region, other=other, one=one)
                if parted:
                    self.parts(one, other, region, cell)
                else:
                    self.assertIsNone(cell)
                agreeing, parting = agreeing + (not parted), parting + parted
        self.assertGreater(min(agreeing, parting), 50)

    def test_narrow(self):
        # A column meets the slanted cells once in 144 rows, and a row once in 144 columns.
        for shift in (0, 143 * 10 ** 30 + 5):
            for box in ((0, 1, shift, None), (0, 1, None, shift), (shift, None, 7, 8), (None, shift, 7, 8)):
                region = Region([box])
                cell = floor_parting_in(Floor(SLANTED), Floor(plain(0)), region)
                self.parts(Floor(SLANTED), Floor(plain(0)), region, cell)
        self.assertIs(agree_in(Floor(SLANTED), Floor(plain(0)), Region([(0, 1, 1 - 144, 1)])), False)
        # In the column 0 the ones are where y is 1 modulo 144.
        self.same([y for y in range(-150, 145) if SLANTED.colour((0, y)) == 1], [-143, 1])
        self.same(floor_parting_in(Floor(SLANTED), Floor(plain(0)), Region([(0, 1, -142, 2)])), (0, 1))
        self.assertIs(agree_in(Floor(SLANTED), Floor(plain(0)), Region([(0, 1, -142, 1)])), True)
        self.assertIs(agree_in(Floor(SPARSE), Floor(plain(0)), Region([(0, 11, 0, 12), (0, 12, 0, 11)])), True)
        one = Floor(Carpet(1, 0, 143, ["0"] * 142 + ["1"]))
        other = Floor(Carpet(1, 0, 144, ["0"] * 142 + ["1", "0"]))
        self.assertIs(agree_in(one, other, Region([(5, 6, 0, 285)])), True)
        self.same(floor_parting_in(one, other, Region([(5, 6, 0, None)])), (5, 285))

    def test_far(self):
        far = Region([(GREAT, GREAT + 1, -GREAT, 1 - GREAT)])
        one, other = Floor(CHESS, [(THREE, COLUMNS)]), Floor(CHESS, [(far, plain(4)), (THREE, COLUMNS)])
        self.same(floor_parting(one, other), (GREAT, -GREAT))
        self.assertIs(agree_in(one, other, ~far), True)
        self.same(unlike_count(one, other, ~Region()), 1)

    def test_laid_layers(self):
        for floor in FLOORS:
            for region in some_regions(124, 3, [None]):
                if len(floor) < 6:
                    laid = floor.laid_on(region, SPARSE)
                    self.assertIs(agree_in(floor, laid, ~region), True)
                    self.assertIs(are_alike(floor, laid), agree_in(floor, laid, region))

    def test_does_part(self):
        one, other = PAIR["one"], PAIR["other"]
        self.assertIs(does_part(cell=(0, 1), other=other, one=one), True)
        self.assertIs(does_part(one, other, (0, 0)), False)
        self.assertIs(does_part(one, other, (GREAT, -GREAT)), False)
        self.assertIs(does_part(one, other, (GREAT, 1 - GREAT)), True)
        for value in NO_PAIRS + [(0, 1.0), [0, 1], (0, True), Everything()]:
            self.assertIs(does_part(one, other, value), False)

    def test_wrong_arguments(self):
        for function in (are_alike, floor_parting):
            self.refuses(function, PAIR, KINDS)
        self.refuses(does_part, {**PAIR, "cell": (0, 0)}, {**KINDS, "cell": "any value"})
        for function in (agree_in, floor_parting_in, unlike_count):
            self.refuses(function, {**PAIR, "region": THREE}, KINDS)


class UnlikeCountTest(PlaneCase):
    def test_cell_by_cell(self):
        for one, other, unlike in pairs_of_floors(2, 3):
            for region in some_regions(125, 4) + [Region()]:
                many = sum(cell in region for cell in unlike)
                self.same(unlike_count(region=region, other=other, one=one), many)

    def test_endless(self):
        endless, ends = 0, 0
        for one, other, unlike in pairs_of_floors(2, 3):
            for region in some_regions(126, 4, [None] * 3) + [~Region()]:
                cells = [cell for cell in unlike if cell in region]
                none = any(abs(x) > 9 or abs(y) > 9 for x, y in cells)
                self.same(unlike_count(one, other, region), None if none else len(cells))
                endless, ends = endless + none, ends + (not none and bool(cells))
        self.assertGreater(endless, 30)
        self.assertGreater(ends, 5)

    def test_great_numbers(self):
        great = 10 ** 30
        region = Region([(0, 2 * great, -great, great)])
        # Chess and columns part in the rows with an odd y.
        self.same(unlike_count(Floor(CHESS), Floor(COLUMNS), region), 2 * great * great)
        cross = Region([(None, None, 0, 2), (0, 2, None, None)])
        layers = [(cross, COLUMNS)]
        self.assertIsNone(unlike_count(Floor(CHESS), Floor(CHESS, layers), ~Region()))
        self.same(unlike_count(Floor(CHESS), Floor(CHESS, layers), region), 2 * great + 2 * great - 2)
        self.same(unlike_count(Floor(CHESS), Floor(CHESS, layers), ~cross), 0)

    def test_three_floors(self):
        chance = random.Random(127)
        for _ in range(60):
            one, other, last = [chance.choice(FLOORS) for _ in range(3)]
            for region in some_regions(chance.randrange(1000), 2):
                between = unlike_count(one, other, region) + unlike_count(other, last, region)
                self.assertLessEqual(unlike_count(one, last, region), between)
                self.assertLessEqual(unlike_count(one, last, region), size_of(region))
                self.same(unlike_count(one, other, region), unlike_count(other, one, region))

    def test_too_many(self):
        one, other = Floor(TWELVE), Floor(TALLER)
        for region in (TWO, ~Region(), Region([(GREAT, GREAT + 1, 0, 1)]), Region([(None, None, 5, 6)])):
            self.bears(TooMany, "limit", 144, unlike_count, one, other, region)
            self.bears(TooMany, "limit", 144, unlike_count, region=region, one=other, other=one)
        self.same(unlike_count(one, other, Region()), 0)
        self.assertIs(are_alike(one, other), False)
        self.assertIs(agree_in(one, other, TWO), True)
        # Levels that show no cells of the region together do not count, whatever lies elsewhere.
        one, other = Floor(TWELVE, [(THREE, CHESS)]), Floor(CHESS, [(~THREE, TALLER)])
        self.same(unlike_count(one, other, THREE), 0)
        self.same(unlike_count(one, other, TWO), 0)
        self.bears(TooMany, "limit", 144, unlike_count, one, other, THREE | Region([(9, 10, 0, 1)]))
        buried = Floor(plain(0), [(THREE, TWELVE), (THREE, plain(1))])
        self.same(unlike_count(buried, Floor(TALLER), Region([(0, 3, 0, 3)])), 9)
        self.bears(TooMany, "limit", 144, unlike_count, buried.without(2), Floor(TALLER), THREE)
        # Of some other pair there is no end of parting cells: the pair that cannot be laid counts, too.
        one, other = Floor(plain(0), [(THREE, TWELVE)]), Floor(plain(1), [(THREE, TALLER)])
        self.bears(TooMany, "limit", 144, unlike_count, one, other, ~Region())
        self.assertIsNone(unlike_count(one, other, ~THREE))
        # 12 times 12 is 144.
        tall = Floor(Carpet(1, 0, 12, ["0"] * 11 + ["1"]))
        self.same(unlike_count(Floor(TWELVE), tall, Region([(0, 12, 0, 12)])), 22)

    def test_many_boxes(self):
        region = stairs()
        unlike = [cell for cell in cells_of(region) if CHESS.colour(cell) != COLUMNS.colour(cell)]
        self.same(unlike_count(Floor(CHESS, [(region, COLUMNS)]), Floor(CHESS), ~Region()), len(unlike))


if __name__ == "__main__":
    unittest.main()
