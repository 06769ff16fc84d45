"""Sizes, hulls, boxes, cells and pieces of regions."""

import unittest

from endlessplane.cuts import (
    boxes_of, cells_of, hull_of, is_finite, nth_cell, pieces, place_of, region_parting, size_of,
)
from endlessplane.errors import BadIndex, BadPart, NotSo
from endlessplane.regions import Region
from tests.helpers import CELLS, GREAT, NO_REGIONS, Everything, PlaneCase, box_has, some_regions

TWO = Region([(0, 2, 0, 2), (1, 3, 1, 3)])
FINITE = some_regions(61, 60) + [Region(), TWO]
ANY = some_regions(62, 30, [None] * 4) + some_regions(63, 15, [None] * 30) + [~TWO, ~Region()] + FINITE[-22:]

# As many boxes as can be told, far from one another, with greater and greater sides.
FAR = Region([(GREAT * at, GREAT * at + 10 ** at, -at, GREAT * at + 1) for at in range(40)])


def cells_by_hand(region):
    """The cells of a region in the window, by y, then x."""
    return [cell for cell in CELLS if cell in region]


def has_ends(region):
    """Whether no cell of a region lies where the window has no ends of regions."""
    return not any(abs(x) > 9 or abs(y) > 9 for x, y in cells_by_hand(region))


class SizeTest(PlaneCase):
    def test_finite_and_size(self):
        for region in FINITE + ANY:
            finite = has_ends(region)
            self.assertIs(is_finite(region), finite)
            self.same(size_of(region), len(cells_by_hand(region)) if finite else None)
        self.same((is_finite(region=TWO), size_of(region=TWO), size_of(~TWO)), (True, 7, None))
        self.same((is_finite(Region()), size_of(Region())), (True, 0))

    def test_without_one_end(self):
        for box in ((None, 0, 0, 1), (0, None, 0, 1), (0, 1, None, 0), (0, 1, 0, None)):
            region = Region([(5, 6, 5, 6), box])
            self.assertIs(is_finite(region), False)
            self.assertIsNone(size_of(region))
            self.assertIs(is_finite(region & Region([(-9, 9, -9, 9)])), True)

    def test_great_numbers(self):
        self.same(size_of(Region([(-GREAT, GREAT, 0, GREAT), (0, 1, -5, 3)])), 2 * GREAT * GREAT + 5)
        self.same(size_of(FAR), sum(10 ** at * (GREAT * at + 1 + at) for at in range(40)))

    def test_hull(self):
        for region in FINITE + ANY:
            cells = cells_by_hand(region)
            if not cells:
                self.assertIsNone(hull_of(region))
                continue
            columns, rows = [x for x, _ in cells], [y for _, y in cells]
            wanted = (min(columns), max(columns) + 1, min(rows), max(rows) + 1)
            self.same(hull_of(region), tuple(None if abs(end) > 9 else end for end in wanted))
        self.same(hull_of(region=TWO), (0, 3, 0, 3))
        self.same(hull_of(~TWO), (None, None, None, None))
        self.same(hull_of(Region([(5, None, -GREAT, 2), (7, 8, 0, GREAT)])), (5, None, -GREAT, GREAT))

    def test_boxes(self):
        for region in FINITE + ANY:
            boxes = boxes_of(region)
            self.same(boxes, [(x0, x1, y0, y1) for y0, y1, xs in region.slabs() for x0, x1 in xs])
            for cell in CELLS[::5]:
                self.assertEqual(sum(box_has(box, cell) for box in boxes), int(cell in region))
        hollow = TWO - Region([(1, 2, 1, 2)])
        self.same(boxes_of(region=hollow), [(0, 2, 0, 1), (0, 1, 1, 2), (2, 3, 1, 2), (1, 3, 2, 3)])
        boxes_of(TWO).clear()
        self.assertEqual(len(boxes_of(TWO)), 3)

    def test_wrong_arguments(self):
        for function in (is_finite, size_of, hull_of, boxes_of):
            self.refuses(function, {"region": TWO})


class OrderTest(PlaneCase):
    def test_cells(self):
        for region in FINITE:
            wanted = cells_by_hand(region)
            self.same(list(cells_of(region)), wanted)
            self.same([nth_cell(region, n) for n in range(len(wanted))], wanted)
            for n in (len(wanted), len(wanted) + 1, GREAT):
                self.assertIsNone(nth_cell(region, n))
            for cell in CELLS[::4]:
                self.same(place_of(region, cell), wanted.index(cell) if cell in wanted else None)
        self.same(nth_cell(n=3, region=TWO), (1, 1))
        self.same(place_of(cell=(1, 1), region=TWO), 3)
        self.same(list(cells_of(region=TWO)), [(0, 0), (1, 0), (0, 1), (1, 1), (2, 1), (1, 2), (2, 2)])

    def test_great_numbers(self):
        region = Region([(-GREAT, GREAT, 0, GREAT), (2 * GREAT, 2 * GREAT + 5, 1, 3)])
        self.same(nth_cell(region, 2 * GREAT), (-GREAT, 1))
        self.same(nth_cell(region, 4 * GREAT + 1), (2 * GREAT + 1, 1))
        self.same(nth_cell(region, size_of(region) - 1), (GREAT - 1, GREAT - 1))
        self.assertIsNone(nth_cell(region, size_of(region)))
        size = size_of(FAR)
        for n in (0, 1, 39, 40, size // 7, size // 3, size // 2, size - 1):
            self.same(place_of(FAR, nth_cell(FAR, n)), n)
        self.assertIsNone(place_of(FAR, (GREAT, GREAT + 1)))
        self.assertIsNone(place_of(FAR, (GREAT + 10, 0)))

    def test_generator(self):
        # Its errors come when the first value is asked for, and it does not take all cells at once.
        for value in NO_REGIONS:
            told = cells_of(value)
            self.bears(BadPart, "part", "region", next, told)
        self.bears(NotSo, "word", "end", next, cells_of(~TWO))
        told = cells_of(Region([(-GREAT, GREAT, 0, GREAT)]))
        self.same([next(told), next(told)], [(-GREAT, 0), (1 - GREAT, 0)])
        self.same(list(cells_of(Region())), [])

    def test_wrong_arguments(self):
        self.refuses(nth_cell, {"region": TWO, "n": 0})
        self.refuses(place_of, {"region": TWO, "cell": (0, 0)})
        self.asks_for_an_end(nth_cell, {"region": TWO, "n": 0}, ["n"])
        self.asks_for_an_end(place_of, {"region": TWO, "cell": (0, 0)}, ["cell"])
        self.asks_for_an_end(lambda region: list(cells_of(region)), {"region": TWO})


class PiecesTest(PlaneCase):
    def cut(self, regions):
        """Check the pieces of regions, and return them."""
        found = pieces(regions)
        self.assertIsInstance(found, list)
        # The boxes one behind the other, from below, then from left to right, with the ends of all that is cut.
        ys = sorted({end for region in regions for y0, y1, _ in region.slabs() for end in (y0, y1) if end is not None})
        wanted = []
        for y0, y1 in zip([None] + ys, ys + [None]):
            y = y1 - 1 if y1 is not None else 0 if y0 is None else y0
            rows = [[xs for low, high, xs in region.slabs()
                     if (low is None or low <= y) and (high is None or y < high)] for region in regions]
            xs = sorted({end for row in rows for xs in row for pair in xs for end in pair if end is not None})
            for x0, x1 in zip([None] + xs, xs + [None]):
                x = x1 - 1 if x1 is not None else 0 if x0 is None else x0
                wanted.append(((x0, x1, y0, y1), tuple((x, y) in region for region in regions)))
        self.same(found, wanted)
        return found

    def test_pieces(self):
        for index in range(0, len(ANY) - 5, 3):
            regions = ANY[index:index + 1 + index % 5]
            found = self.cut(regions)
            for cell in CELLS[::6]:
                truths = [truths for box, truths in found if box_has(box, cell)]
                self.same(truths, [tuple(cell in region for region in regions)])

    def test_told(self):
        all_cells = (None, None, None, None)
        self.same(pieces([]), [(all_cells, ())])
        self.same(pieces(regions=()), [(all_cells, ())])
        self.same(pieces([Region()]), [(all_cells, (False,))])
        self.same(pieces([~Region(), Region()]), [(all_cells, (True, False))])
        self.assertEqual(len(pieces([TWO])), 11)
        self.same(pieces((Region([(0, 1, 0, 1)]),)), [
            ((None, None, None, 0), (False,)), ((None, 0, 0, 1), (False,)), ((0, 1, 0, 1), (True,)),
            ((1, None, 0, 1), (False,)), ((None, None, 1, None), (False,))])
        self.same(pieces([Region([(0, None, None, None)]), Region([(0, None, None, 5)])]), [
            ((None, 0, None, 5), (False, False)), ((0, None, None, 5), (True, True)),
            ((None, 0, 5, None), (False, False)), ((0, None, 5, None), (True, False))])
        # A row is cut at the ends of the other region, though there nothing else is so.
        self.same(pieces([Region([(0, 4, 0, 4)]), Region([(0, 4, 2, 4)])])[1:7], [
            ((None, 0, 0, 2), (False, False)), ((0, 4, 0, 2), (True, False)), ((4, None, 0, 2), (False, False)),
            ((None, 0, 2, 4), (False, False)), ((0, 4, 2, 4), (True, True)), ((4, None, 2, 4), (False, False))])

    def test_great_numbers(self):
        self.cut([FAR, ~FAR, TWO])
        self.assertEqual(len(self.cut([TWO] * 30)), 11)

    def test_wrong_arguments(self):
        for value in (None, True, 5, "", {}, {0: TWO}, TWO, object(), Everything()):
            self.bears(BadPart, "part", "regions", pieces, value)
            self.bears(BadPart, "part", "regions", pieces, regions=value)
        for value in NO_REGIONS:
            self.bears(BadIndex, "index", 0, pieces, [value])
            self.bears(BadIndex, "index", 2, pieces, (TWO, ~TWO, value, None))


class PartingTest(PlaneCase):
    def test_finite(self):
        for one in FINITE[::4]:
            for other in FINITE[::3]:
                parting = [cell for cell in CELLS if (cell in one) is not (cell in other)]
                self.same(region_parting(one, other), parting[0] if parting else None)
        self.same(region_parting(other=TWO, one=Region([(0, 3, 0, 3)])), (2, 0))
        self.assertIsNone(region_parting(TWO, Region([(0, 2, 0, 2), (1, 3, 1, 3), (1, 2, 1, 2)])))

    def test_any(self):
        for one in ANY:
            for other in ANY:
                cell = region_parting(one, other)
                self.assertIs(cell is None, one == other)
                if cell is not None:
                    self.assertIsNot(cell in one, cell in other)
        for one, other in ((~Region(), Region()), (~TWO, TWO), (Region([(None, GREAT, None, -GREAT)]), Region())):
            self.assertIsNot(region_parting(one, other) in one, region_parting(one, other) in other)

    def test_great_numbers(self):
        one = Region([(-GREAT, GREAT, -GREAT, GREAT)])
        self.same(region_parting(one, one - Region([(5, 6, GREAT - 1, None)])), (5, GREAT - 1))
        self.same(region_parting(FAR, FAR | Region([(GREAT, GREAT + 12, GREAT, GREAT + 1)])), (GREAT + 10, GREAT))

    def test_wrong_arguments(self):
        for value in NO_REGIONS:
            self.bears(BadPart, "part", "region", region_parting, value, TWO)
            self.bears(BadPart, "part", "region", region_parting, TWO, value)
            self.bears(BadPart, "part", "region", region_parting, other=value, one=value)


if __name__ == "__main__":
    unittest.main()
