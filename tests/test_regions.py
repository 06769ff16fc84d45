"""Regions and their slabs."""

import random
import unittest

from endlessplane.errors import BadIndex, BadNumber, BadPart, TooMany
from endlessplane.regions import Region, of_slabs, row_at
from endlessplane.stretches import Spread, Stretch
from tests.helpers import (
    CELLS, GREAT, NO_INTEGERS, NO_PAIRS, NO_REGIONS, Everything, PlaneCase, box_has, slabs_by_hand, some_boxes,
    some_regions,
)

ALL = ((None, None, ((None, None),)),)
TWO = Region([(0, 2, 0, 2), (1, 3, 1, 3)])

# Ends: none missing, some missing, most of them missing.
ENDS = ([], [None] * 4, [None] * 30)

NO_BOXES = [
    None, True, 5, "0101", [0, 1, 0, 1], (), (0, 1, 0), (0, 1, 0, 1, 0), (0, 0, 0, 1), (0, 1, 0, 0), (1, 0, 0, 1),
    (0, 1, 1, 0), (True, 2, 0, 1), (0, True, 0, 1), (0, 1, False, 1), (0, 1, 0, True), ("0", 1, 0, 1), (0, 1, 0, "1"),
    (0, (1,), 0, 1), {0: 0, 1: 1, 2: 0, 3: 1}, ((0, 1), (0, 1)), Region(), Everything(), (0, Everything(), 0, 1),
]


class EverythingButNot(Everything):
    """A value that takes part in whatever it is asked for."""

    def __rand__(self, other):
        return self

    __ror__ = __rsub__ = __ge__ = __rand__


class SlabsTest(PlaneCase):
    def test_example(self):
        slabs = ((0, 1, ((0, 2),)), (1, 2, ((0, 3),)), (2, 3, ((1, 3),)))
        self.same(TWO.slabs(), slabs)
        self.same(Region(boxes=((1, 3, 1, 3), (0, 2, 0, 2))).slabs(), slabs)

    def test_none_and_all(self):
        self.same(Region().slabs(), ())
        self.same(Region([]).slabs(), ())
        self.same(Region(()).slabs(), ())
        self.same(Region([(None, None, None, None)]).slabs(), ALL)
        self.same((~Region()).slabs(), ALL)
        halves = [(None, 3, None, None), (3, None, None, 5), (2, None, 5, None)]
        self.same(Region(halves).slabs(), ALL)
        self.same(Region([(0, 1, 0, 1)] + halves).slabs(), ALL)

    def test_against_cells(self):
        for seed, ends in enumerate(ENDS):
            chance = random.Random(seed)
            for _ in range(60):
                boxes = some_boxes(chance, 7, ends)
                region = Region(boxes)
                self.same(region.slabs(), slabs_by_hand(lambda cell: any(box_has(box, cell) for box in boxes)))
                for cell in CELLS[::3]:
                    self.assertIs(cell in region, any(box_has(box, cell) for box in boxes))
                self.assertEqual(Region(boxes[::-1]), region)
                self.assertEqual(of_slabs(region.slabs()), region)

    def test_overlapping_touching_apart(self):
        self.same(Region([(0, 2, 0, 1), (2, 4, 0, 1)]).slabs(), ((0, 1, ((0, 4),)),))
        self.same(Region([(0, 2, 0, 1), (3, 4, 0, 1)]).slabs(), ((0, 1, ((0, 2), (3, 4))),))
        self.same(Region([(0, 3, 0, 1), (2, 4, 0, 1)]).slabs(), ((0, 1, ((0, 4),)),))
        self.same(Region([(0, 2, 0, 1), (0, 2, 1, 4)]).slabs(), ((0, 4, ((0, 2),)),))
        self.same(Region([(0, 2, 0, 1), (0, 2, 2, 4)]).slabs(), ((0, 1, ((0, 2),)), (2, 4, ((0, 2),))))
        self.same(Region([(0, 2, 0, 1), (0, 3, 1, 4)]).slabs(), ((0, 1, ((0, 2),)), (1, 4, ((0, 3),))))
        self.same(Region([(0, 9, 0, 9), (3, 5, 4, 6)]).slabs(), ((0, 9, ((0, 9),)),))
        self.same(Region([(0, 9, 0, 9)] * 40).slabs(), ((0, 9, ((0, 9),)),))

    def test_without_ends(self):
        self.same(Region([(None, 0, 0, 1)]).slabs(), ((0, 1, ((None, 0),)),))
        self.same(Region([(0, None, 0, 1)]).slabs(), ((0, 1, ((0, None),)),))
        self.same(Region([(0, 1, None, 0)]).slabs(), ((None, 0, ((0, 1),)),))
        self.same(Region([(0, 1, 0, None)]).slabs(), ((0, None, ((0, 1),)),))
        self.same(Region([(None, 0, 0, 1), (0, None, 0, 1)]).slabs(), ((0, 1, ((None, None),)),))
        self.same(Region([(None, 0, 0, 1), (1, None, 0, 1)]).slabs(), ((0, 1, ((None, 0), (1, None))),))
        self.same(Region([(0, 1, None, 0), (0, 1, 0, None)]).slabs(), ((None, None, ((0, 1),)),))
        self.same(Region([(0, 1, None, 0), (0, 1, 1, None)]).slabs(), ((None, 0, ((0, 1),)), (1, None, ((0, 1),))))

    def test_great_numbers(self):
        region = Region([(-GREAT, GREAT, -GREAT, GREAT), (GREAT, GREAT + 1, GREAT - 1, None)])
        self.same(region.slabs(), (
            (-GREAT, GREAT - 1, ((-GREAT, GREAT),)), (GREAT - 1, GREAT, ((-GREAT, GREAT + 1),)),
            (GREAT, None, ((GREAT, GREAT + 1),))))
        self.assertIs((GREAT, GREAT) in region, True)
        self.assertIs((GREAT, GREAT - 2) in region, False)
        self.assertIs((-GREAT, -GREAT) in region, True)
        self.assertIs((-GREAT - 1, -GREAT) in region, False)

    def test_forty_boxes(self):
        boxes = [(3 * at, 3 * at + 2, -5 * at, 7 * at + 1) for at in range(40)]
        region = Region(boxes)
        for cell in [(x, y) for x in range(-3, 125, 4) for y in range(-200, 290, 7)]:
            self.assertIs(cell in region, any(box_has(box, cell) for box in boxes))
        for many in (41, 42, 100, 400):
            self.bears(TooMany, "limit", 40, Region, (boxes * 10)[:many])
            self.bears(TooMany, "limit", 40, Region, boxes=tuple((boxes * 10)[:many]))

    def test_wrong_boxes(self):
        for value in (None, True, 5, "", "0101", {}, {0: (0, 1, 0, 1)}, object(), Region(), Everything(), b""):
            self.bears(BadPart, "part", "boxes", Region, value)
            self.bears(BadPart, "part", "boxes", Region, boxes=value)
        for value in NO_BOXES:
            self.bears(BadIndex, "index", 0, Region, [value])
            self.bears(BadIndex, "index", 2, Region, ((0, 1, 0, 1), (None, 1, 0, None), value, None))
            self.bears(BadIndex, "index", 40, Region, [(0, 1, 0, 1)] * 40 + [value])

    def test_boxes_are_not_kept(self):
        boxes = [(0, 1, 0, 1)]
        region = Region(boxes)
        boxes.append((5, 6, 5, 6))
        self.same(region.slabs(), ((0, 1, ((0, 1),)),))
        self.assertEqual(boxes, [(0, 1, 0, 1), (5, 6, 5, 6)])


class CellsTest(PlaneCase):
    def test_no_cells(self):
        for value in NO_PAIRS + [Everything(), (0, Everything()), (Everything(), 0), Region(), (0.0, "x")]:
            for region in (Region(), TWO, ~Region()):
                self.assertIs(value in region, False)

    def test_no_iteration(self):
        for region in (Region(), TWO, ~TWO):
            self.no_iteration(region)

    def test_equal(self):
        self.unlike_all(TWO)
        self.unlike_all(Region())
        self.assertIs(TWO == TWO.slabs(), False)
        self.assertIs(TWO == Region([(0, 2, 0, 2), (1, 3, 1, 2), (1, 3, 2, 3)]), True)
        self.assertIs(TWO != Region([(0, 2, 0, 2), (1, 3, 1, 2), (1, 3, 2, 3)]), False)
        self.assertIs(TWO == Region([(0, 2, 0, 2)]), False)
        self.assertIs(TWO != Region([(0, 2, 0, 2)]), True)
        self.assertIs(~Region() == Region([(None, None, None, None)]), True)


class TogetherTest(PlaneCase):
    def pairs(self):
        for seed, ends in enumerate(ENDS):
            regions = some_regions(seed + 40, 8, ends) + [Region(), ~Region()]
            for one in regions:
                for other in regions:
                    yield one, other

    def test_against_cells(self):
        for one, other in self.pairs():
            had, others = {cell for cell in CELLS if cell in one}, {cell for cell in CELLS if cell in other}
            slabs = [slabs_by_hand(lambda cell: cell in cells)
                     for cells in (had | others, had & others, had - others, set(CELLS) - had)]
            made = [one | other, one & other, one - other, ~one]
            self.assertEqual([region.slabs() for region in made], slabs)
            self.assertIs(one <= other, not slabs[2])
            self.assertIs(one == other, not slabs[2] and not (other - one).slabs())

    def test_of_one_class(self):
        for one, other in list(self.pairs())[:20]:
            for region in (one | other, one & other, one - other, ~one, of_slabs(one.slabs())):
                self.assertIs(region.__class__, Region)

    def test_nothing_is_changed(self):
        one, other = Region([(0, 2, 0, 2)]), Region([(1, 3, 1, 3)])
        told = (one.slabs(), other.slabs())
        same = one
        same |= other
        one | other, one & other, one - other, ~one, one <= other
        self.assertEqual((one.slabs(), other.slabs()), told)
        self.assertEqual(same, TWO)

    def test_more_than_forty_boxes(self):
        region = Region()
        for at in range(120):
            region = region | Region([(at, 2 * at + 1, 3 * at, 3 * at + 2)])
        self.assertEqual(region.slabs(), tuple((3 * at, 3 * at + 2, ((at, 2 * at + 1),)) for at in range(120)))
        holes = ~region
        self.assertEqual(len(holes.slabs()), 241)
        self.assertEqual(~holes, region)
        self.assertEqual(region | holes, ~Region())
        self.assertEqual(region & holes, Region())
        self.assertIs((119, 358) in region, True)
        self.assertIs((119, 358) in holes, False)
        self.assertIs((119, 359) in holes, True)

    def test_great_numbers(self):
        one, other = Region([(-GREAT, GREAT, None, GREAT)]), Region([(0, None, -GREAT, None)])
        self.same((one & other).slabs(), ((-GREAT, GREAT, ((0, GREAT),)),))
        self.same((one - other).slabs(), ((None, -GREAT, ((-GREAT, GREAT),)), (-GREAT, GREAT, ((-GREAT, 0),))))
        self.same((~other).slabs(), ((None, -GREAT, ((None, None),)), (-GREAT, None, ((None, 0),))))

    def test_other_classes(self):
        some = Spread([Stretch(0, 1)])
        for value in NO_REGIONS + [some, Everything(), EverythingButNot(), object(), set()]:
            for region in (Region(), TWO, ~Region()):
                for together in (lambda: region | value, lambda: region & value, lambda: region - value,
                                 lambda: region <= value):
                    self.assertRaises(TypeError, together)
        for value in (None, 5, (), [], some):
            for together in (lambda: value | TWO, lambda: value & TWO, lambda: value - TWO):
                self.assertRaises(TypeError, together)
        for value in (None, 5, (), []):
            with self.assertRaises(TypeError):
                value <= TWO


class OfSlabsTest(PlaneCase):
    def test_right(self):
        for slabs in ((), ALL, TWO.slabs(), ((0, 1, ((0, 1), (2, 3))), (1, 2, ((0, 1),))),
                      ((None, 0, ((0, 1),)), (5, None, ((0, 1),))), ((0, 1, ((None, -GREAT), (0, 1), (GREAT, None))),)):
            self.same(of_slabs(slabs).slabs(), slabs)
            self.same(of_slabs(slabs=slabs).slabs(), slabs)
            self.assertIs(of_slabs(slabs) == Region([
                (x0, x1, y0, y1) for y0, y1, xs in slabs for x0, x1 in xs]), True)

    def test_wrong(self):
        row = ((0, 1),)
        values = [
            None, True, 5, "", [], {}, [(0, 1, row)], ((0, 1, row), None), (None,), ((),), (0, 1, row), ([0, 1, row],),
            ((0, 1),), ((0, 1, row, 0),), ((0, 1, ()),), ((0, 1, [(0, 1)]),), ((0, 1, ([0, 1],)),), ((0, 1, (0, 1)),),
            ((0, 1, ((0, 1, 2),)),), ((0, 1, ((0,),)),), ((0, 0, row),), ((1, 0, row),), ((0, 1, ((0, 0),)),),
            ((0, 1, ((1, 0),)),), ((False, 1, row),), ((0, True, row),), ((0, 1, ((False, 1),)),),
            ((0, 1, ((0, True),)),), (("0", 1, row),), ((0, "1", row),), ((0, 1, ("01",)),), ((0, 1, (None,)),),
            # Not ascending, touching, overlapping, and behind one without end.
            ((0, 1, ((2, 3), (0, 1))),), ((0, 1, ((0, 1), (1, 2))),), ((0, 1, ((0, 2), (1, 3))),),
            ((0, 1, ((0, None), (1, 3))),), ((0, 1, ((0, 1), (None, 3))),), ((0, 1, ((0, 1), (0, 1))),),
            ((2, 3, row), (0, 1, row)), ((0, 2, row), (1, 3, ((5, 6),))), ((0, None, row), (1, 3, ((5, 6),))),
            ((0, 1, row), (None, 3, ((5, 6),))), ((0, 1, row), (0, 1, row)), ((None, None, row), (0, 1, row)),
            # Two slabs that touch, of like stretches.
            ((0, 1, row), (1, 2, row)), ((None, 0, row), (0, None, row)),
            ((0, 1, row), (1, 2, ((0, 2),)), (2, 3, ((0, 2),))),
            TWO, Everything(), (Everything(),), ((0, 1, Everything()),), ((0, Everything(), row),),
            ((0, 1, (Everything(),)),), ((0, 1, ((0, Everything()),)),),
        ]
        for value in values:
            self.bears(BadPart, "part", "slabs", of_slabs, value)
            self.bears(BadPart, "part", "slabs", of_slabs, slabs=value)

    def test_many(self):
        slabs = tuple((2 * at, 2 * at + 1, tuple((3 * x, 3 * x + 2) for x in range(at + 1))) for at in range(90))
        self.same(of_slabs(slabs).slabs(), slabs)
        self.assertIs((3 * 89 + 1, 178) in of_slabs(slabs), True)
        self.assertIs((3 * 89 + 2, 178) in of_slabs(slabs), False)


class RowAtTest(PlaneCase):
    def test_rows(self):
        for seed, ends in enumerate(ENDS):
            for region in some_regions(seed + 50, 20, ends) + [Region(), ~Region()]:
                for y in range(-10, 11):
                    wanted = [xs for y0, y1, xs in region.slabs()
                              if (y0 is None or y0 <= y) and (y1 is None or y < y1)]
                    self.same(row_at(region, y), wanted[0] if wanted else ())
        self.same(row_at(y=1, region=TWO), ((0, 3),))
        self.same(row_at(TWO, GREAT), ())
        self.same(row_at(~TWO, -GREAT), ((None, None),))
        self.same(row_at(~TWO, 2), ((None, 1), (3, None)))

    def test_wrong_arguments(self):
        self.refuses(row_at, {"region": TWO, "y": 0})
        self.bears(BadNumber, "number", "0", row_at, ~TWO, "0")
        for value in NO_INTEGERS:
            self.bears(BadNumber, "number", value, row_at, Region(), value)


if __name__ == "__main__":
    unittest.main()
