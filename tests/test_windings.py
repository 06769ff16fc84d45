"""Windings of closed walks, and how they cross rows."""

import unittest

from endlessplane.closed import backwards, enclosed, reach
from endlessplane.cuts import cells_of
from endlessplane.errors import NotSo
from endlessplane.regions import Region
from endlessplane.walkforms import told_again
from endlessplane.walks import Walk
from endlessplane.windings import crossings, region_sum, row_sum, winding
from tests.helpers import GREAT, NO_PAIRS, NO_INTEGERS, THREE, PlaneCase, cells_walked, some_regions
from tests.test_closed import AROUND, CLOSED, LONG, OPEN


def crossings_by_hand(walk, y):
    """The pairs (x, sign) of the steps that cross a row, step by step."""
    cells = cells_walked(walk)
    return [(x, other_y - one_y) for (x, one_y), (_, other_y) in zip(cells, cells[1:])
            if other_y != one_y and min(one_y, other_y) == y]


def winding_by_hand(walk, cell):
    """How often a walk winds round a cell."""
    return sum(sign for x, sign in crossings_by_hand(walk, cell[1]) if x > cell[0])


class WindingTest(PlaneCase):
    def test_example(self):
        self.same((winding(AROUND, (2, 1)), winding(AROUND, (3, 1)), row_sum(AROUND, 0)), (1, 0, 3))
        self.same(crossings(AROUND, 0), [(3, 0, 1, 1), (0, 0, 1, -1)])

    def test_step_by_step(self):
        unlike = {}
        for walk in CLOSED:
            x0, x1, y0, y1 = reach(walk)
            total = 0
            for y in range(y0 - 1, y1 + 2):
                crossed = crossings_by_hand(walk, y)
                row = [sum(sign for at, sign in crossed if at > x) for x in range(x0 - 1, x1 + 2)]
                for x, wanted in zip(range(x0 - 1, x1 + 2), row):
                    if (x + 2 * y) % 3 == 0:
                        self.same(winding(walk, (x, y)), wanted)
                        west = sum(sign for at, sign in crossed if at <= x)
                        self.same(wanted, -west)
                    unlike[wanted] = unlike.get(wanted, 0) + 1
                self.same(row_sum(walk, y), sum(row))
                total += sum(row)
            self.same(enclosed(walk), total)
        self.assertGreater(len(unlike), 5)

    def test_names(self):
        self.same(winding(cell=(2, 1), walk=AROUND), 1)
        self.same(row_sum(y=1, walk=AROUND), 3)
        self.same(region_sum(region=THREE, walk=AROUND), 6)
        self.same(crossings(y=1, walk=AROUND), [(3, 0, 1, 1), (0, 0, 1, -1)])

    def test_more_than_once_and_backwards(self):
        for walk in CLOSED[::3]:
            for cell in ((0, 0), (1, -1), (2, 2)):
                once = winding(walk, cell)
                self.same(winding(told_again(walk, 3), cell), 3 * once)
                self.same(winding(backwards(walk), cell), -once)
        self.same(winding(Walk((0, 0), [("ENWS", LONG)]), (0, 0)), LONG)
        self.same(winding(Walk((0, 0), [("NESW", LONG)]), (0, 0)), -LONG)
        self.same(winding(Walk((0, 0), [("NESW", LONG)]), (0, 1)), 0)

    def test_great_numbers(self):
        walk = Walk((0, 0), [("E", LONG), ("N", LONG), ("W", LONG), ("S", LONG)])
        for cell, wanted in (((0, 0), 1), ((LONG - 1, LONG - 1), 1), ((LONG, 0), 0), ((0, LONG), 0), ((-1, 5), 0),
                             ((5, -1), 0), ((10 ** 29, 10 ** 29), 1), ((GREAT, GREAT), 0), ((-GREAT, 7), 0)):
            self.same(winding(walk, cell), wanted)
        self.same([row_sum(walk, y) for y in (0, LONG - 1, LONG, -1)], [LONG, LONG, 0, 0])
        stairs = Walk((0, 0), [("EN", LONG), ("W", LONG), ("S", LONG)])
        self.same((winding(stairs, (9, 9)), winding(stairs, (10, 9)), winding(stairs, (0, 10 ** 29))), (1, 0, 1))
        self.same(row_sum(stairs, 10 ** 29), 10 ** 29 + 1)
        self.same(row_sum(walk, GREAT), 0)

    def test_wrong_arguments(self):
        self.refuses(winding, {"walk": AROUND, "cell": (0, 0)})
        self.refuses(row_sum, {"walk": AROUND, "y": 0})
        self.refuses(crossings, {"walk": AROUND, "y": 0})
        self.refuses(crossings, {"walk": Walk((3, 3)), "y": 0})
        self.refuses(winding, {"walk": Walk((3, 3)), "cell": (0, 0)})
        self.refuses(region_sum, {"walk": AROUND, "region": THREE})
        for walk in OPEN:
            for value in NO_PAIRS + [(0, 0)]:
                self.bears(NotSo, "word", "closed", winding, walk, value)
                self.bears(NotSo, "word", "closed", winding, cell=value, walk=walk)
            for value in NO_INTEGERS + [0]:
                self.bears(NotSo, "word", "closed", row_sum, walk, value)
                self.bears(NotSo, "word", "closed", crossings, walk, value)
            for value in (None, THREE, ~THREE):
                self.bears(NotSo, "word", "closed", region_sum, walk, value)
        for walk in (AROUND, Walk((0, 0))):
            self.asks_for_an_end(region_sum, {"walk": walk, "region": THREE})


class CrossingsTest(PlaneCase):
    def test_step_by_step(self):
        for walk in CLOSED:
            _, _, y0, y1 = reach(walk)
            for y in range(y0 - 2, y1 + 3):
                found = crossings(walk, y)
                crossed = sorted((x + step * at, sign) for x, step, count, sign in found for at in range(count))
                self.same(crossed, sorted(crossings_by_hand(walk, y)))
                self.assertTrue(all(count > 1 or (count == 1 and step == 0) for _, step, count, _ in found))
                self.same(found, self.by_letters(walk, y))

    def by_letters(self, walk, y):
        """The crossings, letter by letter and round by round."""
        found = []
        for (word, times), (moment, _) in zip(walk.parts, walk.begins()):
            for place, letter in enumerate(word):
                ends = [(walk.at(moment + turn * len(word) + place), walk.at(moment + turn * len(word) + place + 1))
                        for turn in range(times)]
                xs = [one[0] for one, other in ends if letter in "NS" and min(one[1], other[1]) == y]
                if xs:
                    found.append((xs[0], xs[1] - xs[0] if len(xs) > 1 else 0, len(xs), 1 if letter == "N" else -1))
        return found

    def test_once_and_very_often_in_one_row(self):
        walk = Walk((0, 0), [("NES", LONG), ("W", LONG)])
        self.same(crossings(walk, 0), [(0, 1, LONG, 1), (1, 1, LONG, -1)])
        self.same((row_sum(walk, 0), winding(walk, (7, 0)), winding(walk, (LONG, 0)), winding(walk, (-1, 0))),
                  (-LONG, -1, 0, 0))
        self.same(enclosed(walk), -LONG)
        walk = Walk((0, 0), [("WNWS", LONG), ("EE", LONG)])
        self.same(crossings(walk, 0), [(-1, -2, LONG, 1), (-2, -2, LONG, -1)])
        self.same((winding(walk, (-2, 0)), winding(walk, (-1, 0)), winding(walk, (-2 * LONG, 0))), (1, 0, 1))
        walk = Walk((0, 0), [("ENWS", LONG)])
        self.same(crossings(walk, 0), [(1, 0, LONG, 1), (0, 0, LONG, -1)])
        walk = Walk((0, 0), [("NNE", LONG), ("SSW", LONG)])
        self.same(crossings(walk, 2 * 10 ** 29), [(10 ** 29, 0, 1, 1), (10 ** 29 + 1, 0, 1, -1)])
        self.same(crossings(walk, 2 * 10 ** 29 + 1), [(10 ** 29, 0, 1, 1), (10 ** 29 + 1, 0, 1, -1)])

    def test_rows_beyond(self):
        for y in (-1, 2, 3, GREAT, -GREAT):
            self.same(crossings(AROUND, y), [])
            self.same(row_sum(AROUND, y), 0)
        self.same(crossings(Walk((3, 3)), 3), [])
        self.same(crossings(Walk((3, 3), [("NS", 0), ("EW", 5)]), 3), [])
        self.same(crossings(Walk((3, 3), [("NS", 1)]), 3), [(3, 0, 1, 1), (3, 0, 1, -1)])


class RegionSumTest(PlaneCase):
    def test_cell_by_cell(self):
        regions = some_regions(195, 8) + [Region(), Region([(-30, 31, -30, 31)])]
        for walk in CLOSED[::2]:
            crossed = {y: crossings_by_hand(walk, y) for y in range(-30, 31)}
            for region in regions:
                wanted = sum(sign for x, y in cells_of(region) for at, sign in crossed[y] if at > x)
                self.same(region_sum(walk, region), wanted)

    def test_all(self):
        for walk in CLOSED + [Walk((0, 0), [("EN", LONG), ("W", LONG), ("S", LONG)])]:
            x0, x1, y0, y1 = reach(walk)
            for more in (1, 7, GREAT):
                self.same(region_sum(walk, Region([(x0 - more, x1 + more, y0 - more, y1 + more)])), enclosed(walk))
            for y in (y0, (y0 + y1) // 2, y1):
                self.same(region_sum(walk, Region([(x0 - 3, x1 + 5, y, y + 1)])), row_sum(walk, y))

    def test_great_numbers(self):
        stairs = Walk((0, 0), [("EN", LONG), ("W", LONG), ("S", LONG)])
        # Below 10 ** 29 all of the triangle, and from there on a part of the square beside it.
        part = 10 ** 29
        self.same(region_sum(stairs, Region([(-GREAT, GREAT, -GREAT, part)])), part * (part + 1) // 2)
        self.same(region_sum(stairs, Region([(0, part, 0, LONG)])), part * LONG - part * (part - 1) // 2)
        self.same(region_sum(stairs, Region([(0, part, part, LONG), (5, 9, part, LONG)])), part * (LONG - part))
        self.same(region_sum(Walk((0, 0), [("ENWS", LONG)]), THREE), LONG)
        walk = Walk((0, 0), [("NES", LONG), ("W", LONG)])
        self.same(region_sum(walk, Region([(-5, part, -5, 5)])), -part)
        self.same(region_sum(walk, Region([(part, 3 * LONG, 0, 1)])), part - LONG)
        for box in ((3, 40, 2, 30), (-7, 5, 20, 25), (6, 7, 0, 99)):
            walk = Walk((0, 0), [("EEN", 20), ("NW", 25), ("WSS", 15), ("S", 15)])
            wanted = sum(winding_by_hand(walk, cell) for cell in cells_of(Region([box])))
            self.same(region_sum(walk, Region([box])), wanted)


if __name__ == "__main__":
    unittest.main()
