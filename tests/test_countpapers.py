"""Blocks, and the papers of counts and of n-th cells."""

import unittest

from endlessplane.carpets import Carpet, plain
from endlessplane.counts import count_of
from endlessplane.countpapers import count_paper, is_block, nth_paper, pattern_count, shows_count, shows_nth
from endlessplane.cuts import boxes_of, cells_of, size_of
from endlessplane.errors import BadNumber, BadPart
from endlessplane.nthcells import cut_ahead, nth_of_colour
from endlessplane.regions import Region
from tests.helpers import (
    CELLS, CHESS, COLUMNS, FAR, GREAT, NO_NUMBERS, NO_PAPERS, SLANTED, SPARSE, THREE, Everything, PlaneCase, Touchy,
    cells_with, some_carpets, some_regions, stairs,
)

RIGHT = {"carpet": CHESS, "region": THREE, "colour": 0}
CARPETS = some_carpets(91, 14, [1, 2, 3, 4, 5], "0012") + [CHESS, COLUMNS, plain(0)]
REGIONS = some_regions(92, 12) + [Region(), THREE]

ENDLESS = [~Region(), ~THREE, Region([(0, 3, 0, None)]), Region([(None, 3, 0, 3)])]

# What is no integer of 1 or more, and no box with ends.
NO_TIMES = NO_NUMBERS + [0]
NO_BOXES = [
    None, True, 5, "", "0404", (), (0, 4, 0), (0, 4, 0, 4, 0), [0, 4, 0, 4], {}, (None, 4, 0, 4), (0, None, 0, 4),
    (0, 4, None, 4), (0, 4, 0, None), (None, None, None, None), (4, 4, 0, 4), (0, 4, 4, 4), (4, 0, 0, 4), (0, 4, 4, 0),
    (False, 4, 0, 4), (0, True, 0, 4), (0, 4, False, 4), (0, 4, 0, True), ("0", 4, 0, 4), (0, 4, 0, "4"),
    ((0, 4), (0, 4)), ((0,), 4, 0, 4), Region([(0, 4, 0, 4)]),
]


def is_period_by_hand(carpet, shift):
    """Whether each cell of the told lattice has the colour of the shifted one."""
    return all(carpet.colour((x, y)) == carpet.colour((x + shift[0], y + shift[1]))
               for y in range(carpet.d) for x in range(carpet.a))


def is_right_by_hand(carpet, block):
    """Whether a block of a small pattern is right."""
    (x0, x1, y0, y1), across, up = block
    wide, high = (x1 - x0) // across, (y1 - y0) // up
    if across > 1 and not is_period_by_hand(carpet, (wide, 0)):
        return False
    if up == 1 or is_period_by_hand(carpet, (0, high)):
        return True
    # A shift is a period just if it is one less (a, 0).
    some = any(is_period_by_hand(carpet, (s, high)) for s in range(carpet.a))
    return some and is_period_by_hand(carpet, (x1 - x0, 0))


class BlockTest(PlaneCase):
    def test_by_hand(self):
        found = {True: 0, False: 0}
        for carpet in CARPETS:
            for wide in (1, 2, 3, 4, 6, 12):
                for high in (1, 2, 4, 6, 12):
                    box = (-3, -3 + wide, 5, 5 + high)
                    for across in (n for n in range(1, wide + 1) if wide % n == 0):
                        for up in (n for n in range(1, high + 1) if high % n == 0):
                            right = is_block(carpet, (box, across, up))
                            self.assertIs(right, is_right_by_hand(carpet, (box, across, up)))
                            found[right] += 1
                            if right:
                                self.beside_the_box(carpet, (box, across, up))
        self.assertGreater(min(found.values()), 300)

    def beside_the_box(self, carpet, block):
        """Check that the box has so many times the cells of the pattern, of each colour."""
        box, across, up = block
        x0, x1, y0, y1 = box
        pattern = Region([(x0, x0 + (x1 - x0) // across, y0, y0 + (y1 - y0) // up)])
        for colour in range(4):
            many = pattern_count(carpet, block, colour)
            self.same(many, len(cells_with(carpet, pattern, colour)))
            self.same(across * up * many, count_of(carpet, Region([box]), colour))

    def test_right(self):
        for value in (((0, 4, 0, 4), 1, 1), ((0, 4, 0, 4), 2, 1), ((0, 4, 0, 4), 1, 2), ((0, 4, 0, 4), 2, 4),
                      ((-7, -3, 5, 8), 2, 3), ((0, 3, 0, 4), 1, 2), ((0, 3, 0, 3), 1, 1), ((0, 1, 0, 2), 1, 1),
                      ((0, 2 * GREAT, 0, 3 * GREAT), GREAT, 3 * GREAT)):
            self.assertIs(is_block(CHESS, value), True)
            self.assertIs(is_block(value=value, carpet=CHESS), True)
        # Nine columns come again on the plain carpet alone.
        nine = ((1, GREAT, 0, 1), (GREAT - 1) // 9, 1)
        self.assertIs(is_block(plain(3), nine), True)
        self.assertIs(is_block(CHESS, nine), False)
        self.assertIs(is_block(plain(3), ((1, GREAT, 0, GREAT), GREAT - 1, GREAT)), True)

    def test_just_not_right(self):
        for value in (((0, 3, 0, 1), 3, 1), ((0, 4, 0, 4), 4, 1), ((0, 6, 0, 1), 2, 1), ((0, 1, 0, 2), 1, 2),
                      ((0, 3, 0, 3), 1, 3), ((0, 3, 0, 6), 1, 2), ((0, 4, 0, 4), 3, 1), ((0, 4, 0, 4), 1, 3),
                      ((0, 4, 0, 4), 8, 1), ((0, 4, 0, 4), 1, 8), ((0, 4, 0, 4), 2, 5)):
            self.assertIs(is_block(CHESS, value), False)

    def test_shifts_up(self):
        # (0, 1) is no period; (1, 1) is one, so rows come again in boxes of 144, of 288 columns alone.
        self.assertIs(is_block(SLANTED, ((0, 144, 0, GREAT), 1, GREAT)), True)
        self.assertIs(is_block(SLANTED, ((5, 293, 0, GREAT), 2, GREAT)), True)
        self.assertIs(is_block(SLANTED, ((5, 293, 0, GREAT), 1, GREAT)), True)
        self.assertIs(is_block(SLANTED, ((0, 143, 0, GREAT), 1, GREAT)), False)
        self.assertIs(is_block(SLANTED, ((0, 145, 0, GREAT), 1, GREAT)), False)
        self.assertIs(is_block(SLANTED, ((0, 72, 0, 144), 1, 2)), False)
        # (0, 144) is a period: then any columns will do.
        self.assertIs(is_block(SLANTED, ((0, 1, 0, 144 * GREAT), 1, GREAT)), True)
        self.assertIs(is_block(SLANTED, ((0, 143, 0, 144 * GREAT), 1, GREAT)), True)
        self.assertIs(is_block(SLANTED, ((0, 143, 0, 143 * GREAT), 1, GREAT)), False)
        # A carpet may be told by more rows than come again.
        self.assertIs(is_block(Carpet(4, 0, 2, ["0101", "1010"]), ((0, 4, 0, 3), 1, 3)), True)
        # All y of periods are multiples of 3 here.
        high = Carpet(2, 1, 3, ["00", "01", "22"])
        self.assertIs(is_block(high, ((0, 4, 0, 6), 2, 2)), True)
        self.assertIs(is_block(high, ((0, 4, 0, 6), 1, 2)), True)
        self.assertIs(is_block(high, ((0, 3, 0, 6), 1, 2)), False)
        self.assertIs(is_block(high, ((0, 3, 0, 12), 1, 2)), True)
        self.assertIs(is_block(high, ((0, 4, 0, 4), 2, 2)), False)
        self.assertIs(is_block(high, ((0, 4, 0, 6), 2, 6)), False)

    def test_greatest_patterns(self):
        for wide, high in ((150, 140), (140, 150), (21000, 1), (1, 21000), (2, 10500)):
            for carpet in (CHESS, plain(7), SLANTED, SPARSE):
                self.assertIs(is_block(carpet, ((3, 3 + wide, -4, -4 + high), 1, 1)), True)
            self.same(pattern_count(plain(7), ((3, 3 + wide, -4, -4 + high), 1, 1), 7), 21000)
            self.same(pattern_count(CHESS, ((3, 3 + wide, -4, -4 + high), 1, 1), 1), 10500)
        for wide, high in ((150, 141), (151, 140), (21001, 1), (1, 21001), (3, 7001), (GREAT, 1), (1, GREAT)):
            for carpet in (CHESS, plain(7), SLANTED, SPARSE):
                self.assertIs(is_block(carpet, ((3, 3 + wide, -4, -4 + high), 1, 1)), False)
        # What counts is the pattern, not the box.
        self.assertIs(is_block(CHESS, ((0, 600, 0, 350), 2, 5)), True)
        self.assertIs(is_block(CHESS, ((0, 600, 0, 350), 5, 2)), True)
        self.assertIs(is_block(CHESS, ((0, 600, 0, 350), 8, 2)), False)
        self.assertIs(is_block(CHESS, ((0, 600, 0, 350), 1, 10)), True)
        self.assertIs(is_block(CHESS, ((0, 600, 0, 350), 10, 1)), True)
        self.assertIs(is_block(CHESS, ((0, 600, 0, 350), 3, 3)), False)
        self.assertIs(is_block(CHESS, ((0, 602, 0, 350), 1, 10)), False)
        self.assertIs(is_block(CHESS, ((0, GREAT, 0, 1), 1, 1)), False)

    def test_values_that_are_none(self):
        box = (0, 4, 0, 4)
        self.assertIs(is_block(CHESS, (box, 1, 1)), True)
        values = [[box, 1, 1], (box, 1), (box, 1, 1, 1), box, (1, 1, box), {0: box}, "box", (list(box), 1, 1),
                  Everything(), (Everything(), 1, 1), (box, Everything(), 1), (box, 1, Everything()),
                  Touchy(), (Touchy(), 1, 1), (box, Touchy(), 1), (box, 1, Touchy()), ((Touchy(), 4, 0, 4), 1, 1),
                  ((0, 4, 0, Everything()), 1, 1), (box, 1.0, 1), ((0.0, 4, 0, 4), 1, 1), Region([box])]
        values += [(other, 1, 1) for other in NO_BOXES]
        values += [(box, times, 1) for times in NO_TIMES] + [(box, 1, times) for times in NO_TIMES]
        for value in NO_PAPERS + values:
            self.assertIs(is_block(CHESS, value), False)
            self.assertIs(is_block(plain(0), value), False)

    def test_wrong_arguments(self):
        self.refuses(is_block, {"carpet": CHESS, "value": None})
        self.refuses(pattern_count, {"carpet": CHESS, "block": ((0, 4, 0, 4), 2, 2), "colour": 0})

    def test_blocks_asked_for(self):
        block = ((0, 4, 0, 4), 2, 2)
        self.same(pattern_count(CHESS, block, 0), 2)
        self.same(pattern_count(colour=1, block=block, carpet=CHESS), 2)
        self.same(pattern_count(CHESS, block, 9), 0)
        box = block[0]
        for value in [None, list(block), (box, True, 2), (box, 4, 1), (box, 3, 1), ((0, 4, 0, None), 1, 1), (box, 0, 1),
                      ((0, 21001, 0, 1), 1, 1), Everything()] + NO_PAPERS:
            for colour in (0, 10, None):
                self.bears(BadPart, "part", "block", pattern_count, CHESS, value, colour)
                self.bears(BadPart, "part", "block", pattern_count, colour=colour, block=value, carpet=CHESS)
            self.bears(BadPart, "part", "carpet", pattern_count, None, value, None)


class CountPaperTest(PlaneCase):
    def test_papers_of_the_library(self):
        for carpet in CARPETS:
            for region in REGIONS:
                for colour in range(3):
                    paper = count_paper(carpet, region, colour)
                    self.same(paper[:3], ("count", colour, count_of(carpet, region, colour)))
                    self.assertIs(shows_count(carpet, region, paper), True)
                    self.covers(carpet, region, paper[3])
        self.same(count_paper(colour=0, region=THREE, carpet=CHESS)[:3], ("count", 0, 5))

    def covers(self, carpet, region, blocks):
        """Check that blocks are right, and have each cell of the region just once."""
        self.assertIsInstance(blocks, tuple)
        cells = [cell for block in blocks for cell in cells_of(Region([block[0]]))]
        self.assertEqual(sorted(cells), sorted(cells_of(region)))
        for block in blocks:
            self.assertIs(is_block(carpet, block), True)

    def test_empty_region(self):
        self.same(count_paper(CHESS, Region(), 1), ("count", 1, 0, ()))
        self.assertIs(shows_count(CHESS, Region(), ("count", 1, 0, ())), True)
        self.assertIs(shows_count(CHESS, Region(), ("count", 1, 1, ())), False)
        self.assertIs(shows_count(CHESS, THREE, ("count", 1, 0, ())), False)
        self.assertIs(shows_count(CHESS, Region(), ("count", 0, 5, (((0, 3, 0, 3), 1, 1),))), False)

    def test_great_numbers(self):
        turned = Carpet(144, 143, 1, ["0" * 143 + "1"])
        for carpet in CARPETS + [SLANTED, turned, SPARSE, Carpet(72, 5, 2, ["0" * 72, "0" * 71 + "1"])]:
            for region in (FAR, Region([(-GREAT, GREAT, -GREAT, GREAT)]), Region([(5, 148, -GREAT, GREAT)]),
                           Region([(-GREAT, GREAT, 9, 20)]), Region([(7, 8, GREAT - 500, GREAT)])):
                for colour in (0, 1):
                    paper = count_paper(carpet, region, colour)
                    self.same(paper[:3], ("count", colour, count_of(carpet, region, colour)))
                    self.assertIs(shows_count(carpet, region, paper), True)
                    self.assertIs(shows_count(carpet, region, paper[:2] + (paper[2] + 1,) + paper[3:]), False)

    def test_few_blocks(self):
        for carpet in CARPETS + [SLANTED, SPARSE]:
            for region in (FAR, THREE, Region([(-GREAT, GREAT, -GREAT, GREAT)])):
                blocks = count_paper(carpet, region, 0)[3]
                self.assertLessEqual(len(blocks), 4 * len(boxes_of(region)))
                self.same(sum((x1 - x0) * (y1 - y0) for (x0, x1, y0, y1), _, _ in blocks), size_of(region))

    def test_more_than_forty_boxes(self):
        region = stairs()
        for carpet in (CHESS, SLANTED, SPARSE):
            paper = count_paper(carpet, region, 0)
            self.assertGreater(len(paper[3]), 150)
            self.assertIs(shows_count(carpet, region, paper), True)
            self.assertIs(shows_count(carpet, region, paper[:3] + (paper[3][::-1],)), True)
            self.assertIs(shows_count(carpet, region, paper[:3] + (paper[3][1:],)), False)
            self.assertIs(shows_count(carpet, region, paper[:3] + (paper[3] + paper[3][:1],)), False)

    def test_told_otherwise(self):
        cells = tuple(((x, x + 1, y, y + 1), 1, 1) for x in range(3) for y in range(3))
        for blocks in (cells, cells[::-1], (((0, 3, 0, 3), 1, 1),), (((0, 3, 0, 2), 1, 1), ((0, 3, 2, 3), 1, 1)),
                       (((0, 2, 0, 2), 1, 2), ((2, 3, 0, 2), 1, 1), ((0, 2, 2, 3), 1, 1), ((2, 3, 2, 3), 1, 1)),
                       (((0, 1, 0, 3), 1, 1), ((1, 3, 0, 3), 1, 3)), (((0, 3, 1, 3), 1, 1), ((0, 3, 0, 1), 1, 1))):
            self.assertIs(shows_count(CHESS, THREE, ("count", 0, 5, blocks)), True)
            self.assertIs(shows_count(value=("count", 1, 4, blocks), region=THREE, carpet=CHESS), True)
            self.assertIs(shows_count(CHESS, THREE, ("count", 7, 0, blocks)), True)
            for number in (4, 6, 0, -5, 9):
                self.assertIs(shows_count(CHESS, THREE, ("count", 0, number, blocks)), False)
            self.assertIs(shows_count(CHESS, Region([(0, 3, 0, 4)]), ("count", 0, 5, blocks)), False)
            self.assertIs(shows_count(CHESS, Region([(1, 4, 0, 3)]), ("count", 0, 5, blocks)), False)
            self.assertIs(shows_count(CHESS, Region(), ("count", 0, 5, blocks)), False)
        # A region is the same however it is told.
        told = Region([(0, 3, 0, 1), (0, 2, 0, 3), (1, 3, 1, 3)])
        self.assertIs(shows_count(CHESS, told, ("count", 0, 5, (((0, 3, 0, 3), 1, 1),))), True)

    def test_blocks_that_fail(self):
        # All of these tell the right number, and none tells just the nine cells by right blocks.
        for blocks in (
                # Common cells, all cells or not.
                (((0, 3, 0, 3), 1, 1), ((0, 2, 0, 1), 2, 1)), (((0, 3, 0, 2), 1, 1), ((0, 3, 0, 2), 1, 1)),
                (((0, 2, 0, 3), 1, 1), ((1, 3, 0, 1), 1, 1), ((2, 3, 1, 2), 1, 1), ((2, 3, 2, 3), 1, 1)),
                # Cells that are missing, or of another region.
                (((0, 3, 0, 2), 1, 1), ((0, 2, 2, 3), 1, 1)), (((0, 3, 0, 3), 1, 1), ((5, 6, 6, 7), 1, 1)),
                (((2, 5, 2, 5), 1, 1),), (((0, 9, 0, 1), 1, 1),), (((0, 1, 0, 9), 1, 1),),
                # So many times what does not come again.
                (((0, 3, 0, 3), 3, 1),), (((0, 3, 0, 3), 1, 3),), (((0, 3, 0, 3), 3, 3),)):
            for number in range(12):
                for colour in (0, 1, 2):
                    self.assertIs(shows_count(CHESS, THREE, ("count", colour, number, blocks)), False)

    def test_patterns_too_great(self):
        wide = Region([(0, 21001, 0, 1)])
        self.assertIs(shows_count(plain(5), wide, ("count", 5, 21001, (((0, 21001, 0, 1), 1, 1),))), False)
        self.assertIs(shows_count(plain(5), wide, ("count", 5, 21001, (((0, 21001, 0, 1), 21001, 1),))), True)
        parts = (((0, 21000, 0, 1), 1, 1), ((21000, 21001, 0, 1), 1, 1))
        self.assertIs(shows_count(plain(5), wide, ("count", 5, 21001, parts)), True)

    def test_bent(self):
        blocks = (((0, 2, 0, 3), 1, 3), ((2, 3, 0, 3), 1, 1))
        self.assertIs(shows_count(CHESS, THREE, ("count", 0, 5, blocks)), True)
        one, other = blocks
        for value in NO_PAPERS + [
                ["count", 0, 5, blocks], ("count", 0, 5, list(blocks)), ("count", 0, 5), ("count", 0, 5, blocks, 0),
                ("Count", 0, 5, blocks), ("nth", 0, 5, blocks), (b"count", 0, 5, blocks), (None, 0, 5, blocks),
                ("count", False, 5, blocks), ("count", True, 4, blocks), ("count", 10, 0, blocks),
                ("count", -1, 0, blocks), ("count", None, 0, blocks), ("count", "0", 5, blocks),
                ("count", 0, "5", blocks), ("count", 0, None, blocks), ("count", 0, 5.0, blocks),
                ("count", 0, 4, blocks), ("count", 0, 6, blocks), ("count", 1, 5, blocks),
                ("count", 0, 5, None), ("count", 0, 5, ()), ("count", 0, 5, "blocks"),
                ("count", 0, 5, {0: one, 1: other}), ("count", 0, 5, one), ("count", 0, 5, (one,)),
                ("count", 0, 5, (list(one), other)),
                ("count", 0, 5, (one, other, None)), ("count", 0, 5, (one, ([2, 3, 0, 3], 1, 1))),
                ("count", 0, 5, (one, ((2, 3, 0, 3), True, 1))), ("count", 0, 5, (one, ((2, 3, 0, 3), 1, True))),
                ("count", 0, 5, (((False, 2, 0, 3), 1, 3), other)), ("count", 0, 5, (one, ((2, 3, False, 3), 1, 1))),
                ("count", 0, 5, (one, ((2, 3, 0, None), 1, 1))), ("count", 0, 5, (one, ((2, 3, 0, 3), 1))),
                ("count", 0, 5, (one, (2, 3, 0, 3))), ("count", 0, 5, (one, other, ((3, 3, 0, 3), 1, 1))),
                Everything(), (Everything(), 0, 5, blocks), ("count", Everything(), 5, blocks),
                ("count", 0, Everything(), blocks), ("count", 0, 5, Everything()), ("count", 0, 5, (Everything(),)),
                ("count", 0, 5, (one, (Everything(), 1, 1))), ("nth", 0, 5, (2, 2), blocks), Touchy(),
                (Touchy(), 0, 5, blocks), ("count", Touchy(), 5, blocks), ("count", 0, Touchy(), blocks),
                ("count", 0, 5, Touchy()), ("count", 0, 5, (one, Touchy())), ("count", 0, 5, (one, (Touchy(), 1, 1)))]:
            self.assertIs(shows_count(CHESS, THREE, value), False)
        # True is no number, though it is equal to 1.
        lone = (((0, 1, 0, 1), 1, 1),)
        self.assertIs(shows_count(CHESS, Region([(0, 1, 0, 1)]), ("count", 0, 1, lone)), True)
        self.assertIs(shows_count(CHESS, Region([(0, 1, 0, 1)]), ("count", 0, True, lone)), False)
        self.assertIs(shows_count(CHESS, Region([(0, 1, 0, 1)]), ("count", 1, False, lone)), False)

    def test_regions_without_end(self):
        for region in ENDLESS:
            for blocks in ((), (((0, 3, 0, 3), 1, 1),)):
                for number in (0, 5, None):
                    self.assertIs(shows_count(CHESS, region, ("count", 0, number, blocks)), False)
                    self.assertIs(shows_count(CHESS, region, ("count", 4, number, blocks)), False)

    def test_wrong_arguments(self):
        self.refuses(count_paper, RIGHT)
        self.asks_for_an_end(count_paper, RIGHT)
        self.refuses(shows_count, {"carpet": CHESS, "region": THREE, "value": None})


class NthPaperTest(PlaneCase):
    def test_papers_of_the_library(self):
        for carpet in CARPETS:
            for region in REGIONS[::2]:
                for colour in range(2):
                    for n, cell in list(enumerate(cells_with(carpet, region, colour)))[::5]:
                        paper = nth_paper(carpet, region, colour, n)
                        self.same(paper[:4], ("nth", colour, n, cell))
                        self.assertIs(shows_nth(carpet, region, paper), True)
                        ahead = ("count", colour, n, paper[4])
                        self.assertIs(shows_count(carpet, cut_ahead(region, cell), ahead), True)
        self.same(nth_paper(n=3, colour=0, region=THREE, carpet=CHESS)[:4], ("nth", 0, 3, (0, 2)))
        self.same(nth_paper(CHESS, THREE, 0, 0), ("nth", 0, 0, (0, 0), ()))

    def test_great_numbers(self):
        for carpet in CARPETS[::3] + [SLANTED, SPARSE]:
            for colour in (0, 1):
                many = count_of(carpet, FAR, colour)
                for n in (0, many // 3, many // 2, many - 1):
                    if not 0 <= n < many:
                        continue
                    paper = nth_paper(carpet, FAR, colour, n)
                    self.same(paper[:4], ("nth", colour, n, nth_of_colour(carpet, FAR, colour, n)))
                    self.assertIs(shows_nth(carpet, FAR, paper), True)
                    self.assertIs(shows_nth(carpet, FAR, ("nth", colour, n + 1) + paper[3:]), False)

    def test_each_cell(self):
        # What is ahead of a cell, told cell by cell: so for each cell of the region, and for no other one.
        for region in REGIONS[1:4] + [THREE]:
            blocks = [((x, x + 1, y, y + 1), 1, 1) for x, y in cells_of(region)]
            for carpet in (CHESS, CARPETS[0], CARPETS[5]):
                for cell in CELLS:
                    x, y = cell
                    ahead = tuple(block for block in blocks if (block[0][2], block[0][0]) < (y, x))
                    colour = carpet.colour(cell)
                    n = [carpet.colour((block[0][0], block[0][2])) for block in ahead].count(colour)
                    self.assertIs(shows_nth(carpet, region, ("nth", colour, n, cell, ahead)), cell in region)
                    self.assertIs(shows_nth(carpet, region, ("nth", colour, n + 1, cell, ahead)), False)
                    if ahead:
                        self.assertIs(shows_nth(carpet, region, ("nth", colour, n, cell, ahead[1:])), False)
                    if cell in region:
                        more = ahead + (((x, x + 1, y, y + 1), 1, 1),)
                        for told in (n, n + 1):
                            self.assertIs(shows_nth(carpet, region, ("nth", colour, told, cell, more)), False)

    def test_bent(self):
        blocks = (((0, 3, 0, 1), 1, 1), ((0, 1, 1, 2), 1, 1))
        right = ("nth", 0, 2, (1, 1), blocks)
        self.assertIs(shows_nth(CHESS, THREE, right), True)
        self.assertIs(shows_nth(value=right, region=THREE, carpet=CHESS), True)
        self.assertIs(shows_nth(CHESS, Region([(0, 3, 0, 2)]), right), True)
        for value in NO_PAPERS + [
                list(right), ("nth", 0, 2, [1, 1], blocks), ("nth", 0, 2, (1, 1), list(blocks)), right[:4],
                right + (0,),
                ("count", 0, 2, (1, 1), blocks), ("Nth", 0, 2, (1, 1), blocks), (b"nth", 0, 2, (1, 1), blocks),
                (None, 0, 2, (1, 1), blocks), ("nth", False, 2, (1, 1), blocks), ("nth", 1, 2, (1, 1), blocks),
                ("nth", 10, 0, (1, 1), blocks), ("nth", None, 2, (1, 1), blocks), ("nth", 0, 1, (1, 1), blocks),
                ("nth", 0, 3, (1, 1), blocks), ("nth", 0, -2, (1, 1), blocks), ("nth", 0, None, (1, 1), blocks),
                ("nth", 0, "2", (1, 1), blocks), ("nth", 0, 2, (2, 2), blocks), ("nth", 0, 2, (2, 0), blocks),
                ("nth", 1, 2, (2, 1), blocks), ("nth", 0, 2, (3, 1), blocks), ("nth", 0, 2, (1, 3), blocks),
                ("nth", 0, 2, (True, 1), blocks), ("nth", 0, 2, (1, True), blocks), ("nth", 0, 2, (1, 1, 1), blocks),
                ("nth", 0, 2, None, blocks), ("nth", 0, 2, "11", blocks), ("nth", 0, 2, (1, 1), blocks[:1]),
                ("nth", 0, 2, (1, 1), ()), ("nth", 0, 2, (1, 1), None), ("nth", 0, 2, (1, 1), (blocks[0], blocks[0])),
                ("nth", 0, 2, (1, 1), (list(blocks[0]), blocks[1])), ("nth", 0, 2, (1, 1), blocks + (None,)),
                ("nth", 0, 2, (1, 1), (((0, 3, 0, 1), True, 1), blocks[1])), ("nth", 0, 2, blocks),
                ("nth", 0, 2, (1, 1), (((0, 3, 0, 3), 1, 1),)), Everything(), (Everything(), 0, 2, (1, 1), blocks),
                ("nth", Everything(), 2, (1, 1), blocks), ("nth", 0, Everything(), (1, 1), blocks),
                ("nth", 0, 2, Everything(), blocks), ("nth", 0, 2, (Everything(), 1), blocks),
                ("nth", 0, 2, (1, 1), Everything()), ("nth", 0, 2, (1, 1), (Everything(), blocks[1])), Touchy(),
                (Touchy(), 0, 2, (1, 1), blocks), ("nth", Touchy(), 2, (1, 1), blocks),
                ("nth", 0, Touchy(), (1, 1), blocks), ("nth", 0, 2, Touchy(), blocks),
                ("nth", 0, 2, (1, Touchy()), blocks), ("nth", 0, 2, (1, 1), Touchy())]:
            self.assertIs(shows_nth(CHESS, THREE, value), False)
        # Neither True nor False is a number, though the first cell of all is the one number 0.
        self.assertIs(shows_nth(CHESS, THREE, ("nth", 0, 0, (0, 0), ())), True)
        self.assertIs(shows_nth(CHESS, THREE, ("nth", 0, False, (0, 0), ())), False)
        self.assertIs(shows_nth(CHESS, THREE, ("nth", 1, 0, (1, 0), (((0, 1, 0, 1), 1, 1),))), True)
        self.assertIs(shows_nth(CHESS, THREE, ("nth", True, 0, (1, 0), (((0, 1, 0, 1), 1, 1),))), False)

    def test_other_regions(self):
        right = ("nth", 0, 2, (1, 1), (((0, 3, 0, 1), 1, 1), ((0, 1, 1, 2), 1, 1)))
        for region in (Region(), Region([(0, 3, 0, 1)]), Region([(0, 3, -1, 3)]), Region([(-1, 3, 0, 3)]),
                       Region([(0, 4, 0, 3)]), THREE - Region([(1, 2, 1, 2)])):
            self.assertIs(shows_nth(CHESS, region, right), False)
        # Behind the cell there may be anything that has an end; also ahead of it there is none then.
        self.assertIs(shows_nth(CHESS, THREE | Region([(2, 9, 1, 2), (-5, 5, 2, 7)]), right), True)
        for region in ENDLESS + [THREE | Region([(0, 3, 2, None)]), THREE | Region([(2, None, 1, 2)])]:
            self.assertIs(shows_nth(CHESS, region, right), False)
        self.assertIs(shows_nth(CHESS, Region([(0, None, 0, 1)]), ("nth", 0, 0, (0, 0), ())), False)

    def test_numbers(self):
        for colour, many in ((0, 5), (1, 4), (2, 0)):
            for n in NO_NUMBERS + [many, many + 1, GREAT]:
                self.bears(BadNumber, "number", n, nth_paper, CHESS, THREE, colour, n)
                self.bears(BadNumber, "number", n, nth_paper, n=n, colour=colour, region=THREE, carpet=CHESS)
        self.bears(BadNumber, "number", 0, nth_paper, CHESS, Region(), 0, 0)
        self.same(nth_paper(CHESS, THREE, 1, 3)[:4], ("nth", 1, 3, (1, 2)))

    def test_wrong_arguments(self):
        right = {**RIGHT, "n": 0}
        self.refuses(nth_paper, right)
        self.asks_for_an_end(nth_paper, right, ["n"])
        self.refuses(shows_nth, {"carpet": CHESS, "region": THREE, "value": None})


if __name__ == "__main__":
    unittest.main()
