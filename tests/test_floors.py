"""Floors: grounds and layers, what levels show, buried, idle and slimmed layers."""

import unittest

from endlessplane.carpets import Carpet, plain
from endlessplane.cuts import cells_of
from endlessplane.errors import BadIndex, BadNumber, BadPart, TooMany
from endlessplane.floors import Floor, buried, can_change, idle, slimmed
from endlessplane.regions import Region
from tests.helpers import (
    CELLS, CHESS, COLUMNS, GREAT, NO_CARPETS, NO_FLOORS, NO_INTEGERS, NO_PAIRS, NO_REGIONS, THREE, Everything,
    PlaneCase, some_floors, some_regions, stairs,
)

TWO = Region([(0, 2, 0, 2)])
EXAMPLE = Floor(plain(0), [(TWO, CHESS)])
SIX = [(Region([(at, at + 3, 0, 2)]), plain(at)) for at in range(1, 7)]
ENDS = [(0, None, None, None), (None, 0, None, None), (None, None, 0, None), (None, None, None, 0)]
FLOORS = some_floors(101, 20) + some_floors(102, 20, [None] * 4) + [EXAMPLE]

# Boxes by chance end within 8, and carpets come again after 6 rows and columns or less: this window has all there is.
WIDE = [(x, y) for y in range(-16, 17) for x in range(-16, 17)]


def shower_by_hand(floor, cell):
    """The level that shows a cell, layer by layer."""
    levels = [at for at, (region, _) in enumerate(floor.told_layers(), start=1) if cell in region]
    return levels[-1] if levels else 0


def colours_by_hand(floor, cells=WIDE):
    """The colours of cells, layer by layer."""
    carpets = [floor.carpet_of(0)] + [carpet for _, carpet in floor.told_layers()]
    return [carpets[shower_by_hand(floor, cell)].colour(cell) for cell in cells]


class LevelsTest(PlaneCase):
    def test_colours(self):
        for floor in FLOORS:
            self.same([floor.colour(cell) for cell in CELLS], colours_by_hand(floor, CELLS))
            self.same([floor.shower(cell) for cell in CELLS], [shower_by_hand(floor, cell) for cell in CELLS])
        self.same(EXAMPLE.colour(cell=(1, 0)), 1)
        self.same(EXAMPLE.shower(cell=(1, 0)), 1)

    def test_shown(self):
        for floor in FLOORS:
            together = Region()
            for level in range(len(floor) + 1):
                shown = floor.shown(level=level)
                self.assertEqual(shown & together, Region())
                together = together | shown
                showers = [cell for cell in CELLS if shower_by_hand(floor, cell) == level]
                self.assertEqual([cell for cell in CELLS if cell in shown], showers)
                above = Region()
                for region, _ in floor.told_layers()[level:]:
                    above = above | region
                self.assertEqual(shown, floor.region_of(level) - above)
            self.assertEqual(together, ~Region())

    def test_levels(self):
        ground = Carpet(4, 0, 1, ["0101"])
        floor = Floor(ground, SIX)
        self.same(len(floor), 6)
        self.same(len(Floor(ground=CHESS)), 0)
        self.same(floor.told_layers(), SIX)
        self.assertIs(floor.carpet_of(level=0), ground)
        self.assertEqual(floor.region_of(level=0), ~Region())
        for level in range(1, 7):
            self.assertIs(floor.carpet_of(level), SIX[level - 1][1])
            self.assertIs(floor.region_of(level), SIX[level - 1][0])

    def test_lists_and_tuples(self):
        self.assertEqual(Floor(CHESS, SIX), Floor(CHESS, tuple(SIX)))
        self.assertEqual(Floor(CHESS, []), Floor(CHESS, ()))
        self.assertEqual(Floor(layers=SIX, ground=CHESS), Floor(CHESS, SIX))
        layers = list(SIX)
        floor = Floor(CHESS, layers)
        layers.clear()
        floor.told_layers().clear()
        self.same(len(floor), 6)
        self.same(floor.told_layers(), SIX)

    def test_ends_on_each_side(self):
        for box in ENDS:
            floor = Floor(plain(3), [(Region([box]), COLUMNS)])
            for cell in ((GREAT, GREAT), (-GREAT, -GREAT), (GREAT, -GREAT), (-GREAT, GREAT), (1 - GREAT, 1)):
                self.same(floor.colour(cell), COLUMNS.colour(cell) if cell in Region([box]) else 3)
            self.assertEqual(floor.shown(0), ~Region([box]))
        floor = Floor(plain(3), [(Region(), COLUMNS), (~Region(), plain(4)), (Region(), plain(5))])
        self.same([floor.colour(cell) for cell in CELLS], [4] * len(CELLS))
        self.same([floor.shown(level) == Region() for level in range(4)], [True, True, False, True])

    def test_is_no_iterable(self):
        with self.assertRaises(TypeError):
            iter(EXAMPLE)
        self.unlike_all(EXAMPLE)
        self.assertIs(EXAMPLE == CHESS, False)
        self.assertIs(Floor(CHESS) == CHESS, False)

    def test_wrong_arguments(self):
        for value in NO_CARPETS + [EXAMPLE]:
            self.bears(BadPart, "part", "carpet", Floor, value)
            self.bears(BadPart, "part", "carpet", Floor, layers=None, ground=value)
        for value in (None, True, 5, "", {}, TWO, (TWO, CHESS).__iter__(), EXAMPLE, {0: (TWO, CHESS)}):
            self.bears(BadPart, "part", "layers", Floor, CHESS, value)
            self.bears(BadPart, "part", "layers", Floor, layers=value, ground=CHESS)
        wrong = [None, True, [TWO, CHESS], (CHESS, TWO), (TWO,), (TWO, CHESS, CHESS), (TWO, None), (None, CHESS), TWO,
                 (EXAMPLE, CHESS), (TWO, EXAMPLE), {}, "ab", Everything()]
        for value in wrong:
            self.bears(BadIndex, "index", 0, Floor, CHESS, [value])
            self.bears(BadIndex, "index", 0, Floor, CHESS, (value, None))
            self.bears(BadIndex, "index", 3, Floor, layers=SIX[:3] + [value] + SIX + [None], ground=CHESS)
            self.bears(BadIndex, "index", 7, Floor, CHESS, SIX + SIX[:1] + [value])
        self.bears(TooMany, "limit", 6, Floor, CHESS, SIX + SIX[:1])
        self.bears(TooMany, "limit", 6, Floor, CHESS, tuple(SIX + SIX))
        for value in NO_PAIRS:
            self.bears(BadPart, "part", "cell", EXAMPLE.colour, value)
            self.bears(BadPart, "part", "cell", EXAMPLE.shower, cell=value)
        for value in NO_INTEGERS + [-1, 2, GREAT, -GREAT]:
            for method in (EXAMPLE.carpet_of, EXAMPLE.region_of, EXAMPLE.shown):
                self.bears(BadNumber, "number", value, method, value)
                self.bears(BadNumber, "number", value, method, level=value)


class OneColouringTest(PlaneCase):
    def test_told_otherwise(self):
        ground = Carpet(4, 0, 2, ["0101", "1010"])
        for one, other in [
            (Floor(CHESS), Floor(ground)),
            (Floor(CHESS), Floor(plain(3), [(~Region(), CHESS)])),
            (Floor(CHESS), Floor(CHESS, [(THREE, ground)])),
            (Floor(CHESS), Floor(CHESS, [(Region(), plain(7))] * 6)),
            (Floor(plain(0), [(TWO, plain(1))]), Floor(plain(1), [(~TWO, plain(0))])),
            (Floor(plain(0), [(TWO, COLUMNS)]), Floor(plain(0), [(Region([(1, 2, 0, 2)]), plain(1))])),
            (Floor(plain(0), [(TWO, plain(1)), (THREE, plain(2))]), Floor(plain(0), [(THREE, plain(2))])),
            (Floor(CHESS, [(Region([(2 * GREAT, None, None, 0)]), COLUMNS)]),
             Floor(CHESS, [(Region([(2 * GREAT, None, None, -2)]), COLUMNS),
                           (Region([(2 * GREAT, None, -2, 0)]), Carpet(4, 0, 1, ["0101"]))])),
        ]:
            self.assertIs(one == other, True)
            self.assertIs(other == one, True)
            self.assertIs(one != other, False)

    def test_not_of_one_colouring(self):
        far = Region([(GREAT, GREAT + 1, -GREAT, 1 - GREAT)])
        for one, other in [
            (Floor(CHESS), Floor(COLUMNS)),
            (Floor(CHESS), Floor(CHESS, [(far, plain(2))])),
            (Floor(CHESS), Floor(CHESS, [(far, CHESS.moved_by((1, 0)))])),
            (Floor(CHESS, [(~TWO, plain(1))]), Floor(plain(1), [(TWO, COLUMNS)])),
            (Floor(plain(0), [(TWO, CHESS), (THREE, plain(2))]), Floor(plain(0), [(THREE, plain(2)), (TWO, CHESS)])),
        ]:
            self.assertIs(one == other, False)
            self.assertIs(other == one, False)
            self.assertIs(one != other, True)

    def test_cell_by_cell(self):
        floors = some_floors(103, 24, [None] * 3, "01", [1, 2])
        likes = 0
        for one in floors:
            told = colours_by_hand(one)
            for other in floors:
                self.assertIs(one == other, told == colours_by_hand(other))
            slim = slimmed(one)
            self.same(colours_by_hand(slim), told)
            likes += len(slim) < len(one)
        self.assertGreater(likes, 5)


class ChangedTest(PlaneCase):
    def test_laid_on(self):
        for floor in FLOORS[:12]:
            for region in some_regions(104, 4, [None] * 3):
                if len(floor) == 6:
                    self.bears(TooMany, "limit", 6, floor.laid_on, region, CHESS)
                    continue
                laid = floor.laid_on(carpet=CHESS, region=region)
                self.same(laid.told_layers(), floor.told_layers() + [(region, CHESS)])
                for cell in CELLS:
                    self.same(laid.colour(cell), CHESS.colour(cell) if cell in region else floor.colour(cell))
                self.same(laid.without(len(laid)).told_layers(), floor.told_layers())
                self.assertEqual(laid.without(len(laid)), floor)

    def test_without(self):
        floor = Floor(CHESS, SIX)
        for level in range(1, 7):
            self.same(floor.without(level=level).told_layers(), SIX[:level - 1] + SIX[level:])
            self.assertIs(floor.without(level).carpet_of(0), CHESS)
        self.same(len(floor), 6)

    def test_exchanged(self):
        floor = Floor(CHESS, SIX)
        for level in range(1, 6):
            wanted = SIX[:level - 1] + [SIX[level], SIX[level - 1]] + SIX[level + 1:]
            self.same(floor.exchanged(level=level).told_layers(), wanted)
            self.assertIs(floor.exchanged(level).carpet_of(0), CHESS)
        self.same(floor.told_layers(), SIX)

    def test_recoloured(self):
        for colours in ([9 - colour for colour in range(10)], (4,) * 10, {0: 5, 1: 0}, {}):
            for floor in FLOORS[::4]:
                other = floor.recoloured(colours=colours)
                self.same(len(other), len(floor))
                led = colours.get if isinstance(colours, dict) else lambda colour, _: colours[colour]
                for cell in CELLS[::3]:
                    self.same(other.colour(cell), led(floor.colour(cell), floor.colour(cell)))
                for level in range(1, len(floor) + 1):
                    self.assertIs(other.region_of(level), floor.region_of(level))

    def test_wrong_arguments(self):
        for floor in (EXAMPLE, Floor(CHESS, SIX)):
            for value in NO_REGIONS:
                self.bears(BadPart, "part", "region", floor.laid_on, value, None)
                self.bears(BadPart, "part", "region", floor.laid_on, carpet=CHESS, region=value)
            for value in NO_CARPETS:
                self.bears(BadPart, "part", "carpet", floor.laid_on, TWO, value)
            for value in ([0] * 9, None, {0: 10}, {True: 0}, "0123456789"):
                self.bears(BadPart, "part", "colours", floor.recoloured, value)
                self.bears(BadPart, "part", "colours", Floor(CHESS).recoloured, colours=value)
        self.bears(TooMany, "limit", 6, Floor(CHESS, SIX).laid_on, TWO, CHESS)
        for value in NO_INTEGERS + [-1, 0, 7, GREAT]:
            self.bears(BadNumber, "number", value, Floor(CHESS, SIX).without, value)
            self.bears(BadNumber, "number", value, Floor(CHESS, SIX).without, level=value)
        for value in NO_INTEGERS + [-1, 0, 6, 7, GREAT]:
            self.bears(BadNumber, "number", value, Floor(CHESS, SIX).exchanged, value)
            self.bears(BadNumber, "number", value, can_change, Floor(CHESS, SIX), value)
            self.bears(BadNumber, "number", value, can_change, level=value, floor=Floor(CHESS, SIX))
        self.bears(BadNumber, "number", 1, EXAMPLE.exchanged, 1)
        self.bears(BadNumber, "number", 1, can_change, EXAMPLE, 1)
        self.bears(BadNumber, "number", 1, Floor(CHESS).without, 1)
        self.bears(BadNumber, "number", 0, Floor(CHESS).exchanged, 0)


class IdleTest(PlaneCase):
    def test_example(self):
        floor = EXAMPLE.laid_on(TWO, plain(0))
        self.same((buried(floor), idle(floor)), ([1], [1]))
        self.same((buried(floor.without(1)), idle(floor.without(1))), ([], [1]))
        self.same(len(slimmed(floor)), 0)
        self.same((buried(EXAMPLE), idle(EXAMPLE), slimmed(floor=EXAMPLE).told_layers()), ([], [], [(TWO, CHESS)]))
        self.same((buried(floor=floor), idle(floor=floor)), ([1], [1]))

    def test_cell_by_cell(self):
        some_buried, some_idle = 0, 0
        for floor in FLOORS + some_floors(105, 30, [None], "01", [1, 2]):
            told = colours_by_hand(floor)
            levels = range(1, len(floor) + 1)
            showers = [shower_by_hand(floor, cell) for cell in WIDE]
            self.same(buried(floor), [level for level in levels if level not in showers])
            by_hand = [level for level in levels if colours_by_hand(floor.without(level)) == told]
            self.same(idle(floor), by_hand)
            self.assertLessEqual(set(buried(floor)), set(by_hand))
            some_buried, some_idle = some_buried + len(buried(floor)), some_idle + len(by_hand)
        self.assertGreater(some_buried, 10)
        self.assertGreater(some_idle, some_buried)

    def test_slimmed(self):
        for floor in FLOORS + some_floors(106, 20, [None], "01", [1, 2]):
            slim = slimmed(floor)
            self.assertEqual(slim, floor)
            self.same(idle(slim), [])
            left = floor
            while idle(left):
                left = left.without(idle(left)[0])
            self.same(slim.told_layers(), left.told_layers())

    def test_one_of_two_is_taken_out(self):
        # Each of the two is idle beside the other one; the least one is taken out.
        floor = Floor(plain(0), [(TWO, CHESS), (THREE, plain(3)), (THREE, Carpet(2, 0, 1, ["33"]))])
        self.same((buried(floor), idle(floor)), ([1, 2], [1, 2, 3]))
        self.same(slimmed(floor).told_layers(), floor.told_layers()[2:])

    def test_can_change(self):
        changing, not_changing = 0, 0
        for floor in FLOORS + some_floors(107, 30, [None], "01", [1, 2]):
            told = colours_by_hand(floor)
            for level in range(1, len(floor)):
                by_hand = colours_by_hand(floor.exchanged(level)) == told
                self.assertIs(can_change(floor, level), by_hand)
                self.assertIs(can_change(level=level, floor=floor), floor.exchanged(level) == floor)
                changing, not_changing = changing + by_hand, not_changing + (not by_hand)
        self.assertGreater(min(changing, not_changing), 20)

    def test_can_change_edges(self):
        parts = [(TWO, CHESS), (THREE, plain(0))]
        self.assertIs(can_change(Floor(plain(0), parts), 1), False)
        # Where the others are unlike, a layer lies above them.
        self.assertIs(can_change(Floor(plain(0), parts + [(TWO, plain(5))]), 1), True)
        self.assertIs(can_change(Floor(plain(0), parts + [(Region([(0, 2, 0, 1)]), plain(5))]), 1), False)
        self.assertIs(can_change(Floor(plain(0), parts + [(Region([(1, 2, 0, 1), (0, 1, 1, 2)]), plain(5))]), 1), True)
        self.assertIs(can_change(Floor(plain(0), [(TWO, CHESS), (~TWO, plain(0))]), 1), True)
        far = Region([(GREAT, None, None, -GREAT)])
        self.assertIs(can_change(Floor(plain(0), [(far, CHESS), (~TWO, plain(0))]), 1), False)
        self.assertIs(can_change(Floor(plain(0), [(far, Carpet(4, 0, 1, ["0101"])), (~TWO, COLUMNS)]), 1), True)

    def test_regions_of_many_boxes(self):
        region = stairs()
        floor = Floor(CHESS, [(region, COLUMNS), (region, plain(1)), (region, COLUMNS)])
        self.same(buried(floor), [1, 2])
        self.same(idle(floor), [1, 2])
        for cell in list(cells_of(region))[::37]:
            self.same(floor.colour(cell), COLUMNS.colour(cell))

    def test_wrong_arguments(self):
        for value in NO_FLOORS:
            for function in (buried, idle, slimmed):
                self.bears(BadPart, "part", "floor", function, value)
                self.bears(BadPart, "part", "floor", function, floor=value)
            self.bears(BadPart, "part", "floor", can_change, value, None)
            self.bears(BadPart, "part", "floor", can_change, level=1, floor=value)


if __name__ == "__main__":
    unittest.main()
