"""How often and when walks stand on colours in regions."""

import random
import unittest

from endlessplane.carpets import plain
from endlessplane.counts import count_of
from endlessplane.errors import BadNumber, BadPart
from endlessplane.floors import Floor
from endlessplane.regions import Region
from endlessplane.stands import (
    colours_of, floor_stands, lets_rows, rows_of_stands, stands, stands_ahead, visits,
)
from endlessplane.walks import Walk
from tests.helpers import (
    CHESS, COLUMNS, GREAT, NO_CARPETS, NO_COLOURS, NO_NUMBERS, NO_PAPERS, NO_REGIONS, NO_WALKS, SLANTED, SPARSE, THREE,
    Everything, PlaneCase, Touchy, cells_walked, moments_in, some_carpets, some_floors, some_regions,
    some_walks,
)

LONG = 10 ** 30
ALL = ~Region()
WALK = Walk((0, 0), [("EN", 5), ("W", 3)])
WALKS = some_walks(141, 20) + some_walks(147, 4, 3, 24, 3) + [Walk((0, 0)), Walk((1, 1), [("EW", 0)])]
CARPETS = some_carpets(142, 12, [1, 2, 3, 4], "012") + [CHESS, COLUMNS]
REGIONS = some_regions(143, 6, [None] * 3) + some_regions(144, 4) + [Region(), ALL]
RIGHT = {"walk": WALK, "region": THREE, "carpet": CHESS, "colour": 0}


def moments_by_hand(walk, region, carpet=None, colour=None):
    """The moments at which a walk stands so, step by step."""
    cells = cells_walked(walk)
    return [at for at, cell in enumerate(cells) if cell in region and (carpet is None or carpet.colour(cell) == colour)]


def asked():
    """Walks, regions, carpets and colours by chance."""
    chance = random.Random(145)
    found = []
    for walk in WALKS:
        for region in REGIONS:
            carpet = chance.choice(CARPETS + [None] * 4)
            found.append((walk, region, carpet, None if carpet is None else chance.randrange(3)))
    return found


class StandsCase(PlaneCase):
    def refuses_stands(self, function, right):
        """Check the errors of a walk, a region, a carpet and a colour, which are all that a function asks first."""
        no_carpets = [value for value in NO_CARPETS if value is not None]
        for name, word, values in (("walk", "walk", NO_WALKS), ("region", "region", NO_REGIONS),
                                   ("carpet", "carpet", no_carpets + [Floor(CHESS)])):
            for value in values:
                self.bears(BadPart, "part", word, function, **{**right, name: value})
                self.bears(BadPart, "part", word, function, *{**right, name: value}.values())
                later = list(right)[list(right).index(name) + 1:]
                self.bears(BadPart, "part", word, function, **{**right, name: value, **{other: -1 for other in later}})
        last = {name: None for name in right if name not in RIGHT}
        for value in NO_COLOURS:
            self.bears(BadNumber, "number", value, function, **{**right, "colour": value})
            self.bears(BadNumber, "number", value, function, **{**right, **last, "colour": value})
        for value in [value for value in NO_COLOURS if value is not None] + [0, 9]:
            self.bears(BadNumber, "number", value, function, **{**right, "carpet": None, "colour": value})
            self.bears(BadNumber, "number", value, function, **{**right, **last, "carpet": None, "colour": value})


class StandsTest(StandsCase):
    def test_step_by_step(self):
        for walk, region, carpet, colour in asked():
            moments = moments_by_hand(walk, region, carpet, colour)
            self.same(stands(walk, region, carpet, colour), len(moments))
            self.same(stands(colour=colour, carpet=carpet, region=region, walk=walk), len(moments))
            for moment in (0, 1, 2, 5, 9, walk.end() // 2, walk.end(), walk.end() + 1, GREAT):
                ahead = len([at for at in moments if at < moment])
                self.same(stands_ahead(walk, moment, region, carpet, colour), ahead)
                self.same(stands_ahead(colour=colour, carpet=carpet, region=region, moment=moment, walk=walk), ahead)

    def test_defaults(self):
        self.same(stands(WALK, THREE), 5)
        self.same(stands(WALK, THREE, None, None), 5)
        self.same(stands(WALK, ALL), 14)
        self.same(stands_ahead(WALK, 3, ALL), 3)
        self.same(rows_of_stands(WALK, Region()), ())

    def test_colours(self):
        for walk in WALKS:
            for carpet in CARPETS[::3]:
                for region in REGIONS[::3]:
                    cells = [cell for cell in cells_walked(walk) if cell in region]
                    colours = [carpet.colour(cell) for cell in cells]
                    counts = tuple(colours.count(colour) for colour in range(10))
                    self.same(colours_of(walk, region, carpet), counts)
                    self.same(colours_of(carpet=carpet, region=region, walk=walk), counts)

    def test_visits(self):
        for walk in WALKS:
            cells = cells_walked(walk)
            for cell in cells + [(0, 0), (GREAT, -GREAT)]:
                self.same(visits(walk, cell), cells.count(cell))
                self.same(visits(cell=cell, walk=walk), cells.count(cell))
        self.same(visits(Walk((0, 0), [("EW", LONG)]), (1, 0)), LONG)
        self.same(visits(Walk((0, 0), [("EW", LONG)]), (0, 0)), LONG + 1)
        self.same(visits(Walk((0, 0), [("E", LONG), ("W", LONG)]), (LONG // 7, 0)), 2)
        self.same(visits(Walk((0, 0), [("E", LONG), ("W", LONG)]), (LONG, 0)), 1)

    def test_floors(self):
        for index, floor in enumerate(some_floors(146, 21, [None] * 3, "012")):
            for walk in WALKS[index % 3::3]:
                for region in REGIONS[index % 2::4]:
                    colours = [floor.colour(cell) for cell in cells_walked(walk) if cell in region]
                    for colour in range(3):
                        self.same(floor_stands(walk, region, floor, colour), colours.count(colour))
        self.same(floor_stands(colour=1, floor=Floor(CHESS), region=ALL, walk=WALK), stands(WALK, ALL, CHESS, 1))

    def test_great_numbers(self):
        walk = Walk((0, 0), [("EN", LONG), ("W", LONG)])
        # Behind each two steps it is on 0 of chess again, then on 0 and 1 by turns.
        self.same(stands(walk, ALL, CHESS, 0), LONG + 1 + LONG // 2)
        self.same(colours_of(walk, ALL, CHESS)[:3], (LONG + 1 + LONG // 2, LONG + LONG // 2, 0))
        # To the west it goes along the row 10 ** 30, from (10 ** 30 - 1, ..) to (0, ..).
        self.same(stands(walk, Region([(0, 10 ** 29, None, None)])), 2 * 10 ** 29 - 1 + 10 ** 29)
        self.same(stands(walk, Region([(0, 10 ** 29, 0, LONG)])), 2 * 10 ** 29 - 1)
        self.same(stands(walk, Region([(None, 10 ** 29, None, 5)]), COLUMNS, 1), 5)
        self.same(stands_ahead(walk, 2 * LONG, ALL, CHESS, 0), LONG)
        self.same(stands_ahead(walk, 2 * LONG + 3, ALL, CHESS, 0), LONG + 2)
        layers = [(Region([(0, 10 ** 29, None, None)]), plain(7)), (Region([(None, 8, None, None)]), plain(6))]
        floor = Floor(CHESS, layers)
        self.same(floor_stands(walk, ALL, floor, 6), 15 + 8)
        self.same(floor_stands(walk, ALL, floor, 7), 3 * (10 ** 29 - 8))
        self.same(floor_stands(walk, ALL, floor, 0) + floor_stands(walk, ALL, floor, 1), 3 * LONG + 2 - 3 * 10 ** 29)

    def test_carpets_that_come_again_late(self):
        for carpet in (SLANTED, SPARSE):
            for word in ("E", "N", "EEN", "ENNNW", "ENWSE", "E" * 23):
                walk = Walk((-5, 3), [(word, 400)])
                for region in (ALL, Region([(-40, None, None, 70)])):
                    for colour in (0, 1):
                        moments = moments_by_hand(walk, region, carpet, colour)
                        self.same(stands(walk, region, carpet, colour), len(moments))
                        self.same(moments_in(rows_of_stands(walk, region, carpet, colour)), moments)
        row = Walk((0, 0), [("E", LONG - 1)])
        self.same(stands(row, ALL, SLANTED, 1), count_of(SLANTED, Region([(0, LONG, 0, 1)]), 1))

    def test_wrong_arguments(self):
        self.refuses_stands(stands, RIGHT)
        right = {"walk": WALK, "moment": 0, "region": THREE, "carpet": CHESS, "colour": 0}
        for value in NO_NUMBERS:
            self.bears(BadNumber, "number", value, stands_ahead, WALK, value, THREE)
            self.bears(BadNumber, "number", value, stands_ahead, **{**right, "moment": value})
            self.bears(BadNumber, "number", 10, stands_ahead, **{**right, "moment": value, "colour": 10})
            self.bears(BadNumber, "number", 5, stands_ahead, WALK, value, THREE, None, 5)
            self.bears(BadPart, "part", "carpet", stands_ahead, WALK, value, THREE, 5, 10)
            self.bears(BadPart, "part", "region", stands_ahead, WALK, value, None, None, 10)
            self.bears(BadPart, "part", "walk", stands_ahead, None, value, None, None, 10)
        for value in (None, -1, 10, True):
            self.bears(BadNumber, "number", value, stands_ahead, **{**right, "colour": value})
        self.refuses(colours_of, {"walk": WALK, "region": THREE, "carpet": CHESS})
        self.refuses(floor_stands, {"walk": WALK, "region": THREE, "floor": Floor(CHESS), "colour": 0})
        self.refuses(visits, {"walk": WALK, "cell": (0, 0)})


class RowsTest(StandsCase):
    def test_right_rows(self):
        for walk, region, carpet, colour in asked():
            rows = rows_of_stands(colour=colour, carpet=carpet, region=region, walk=walk)
            self.assertIs(rows.__class__, tuple)
            self.same(moments_in(rows), moments_by_hand(walk, region, carpet, colour))
            firsts = [first for first, _, _ in rows]
            self.same(firsts, sorted(firsts))
            self.assertTrue(all(gap >= 1 and many >= 1 for _, gap, many in rows))
            self.assertIs(lets_rows(walk, region, carpet, colour, rows), True)
            self.assertIs(lets_rows(value=rows, colour=colour, carpet=carpet, region=region, walk=walk), True)

    def test_told_otherwise(self):
        for walk, region, carpet, colour in asked()[::2]:
            moments = moments_by_hand(walk, region, carpet, colour)
            single = tuple((moment, 1 + moment, 1) for moment in moments[::-1])
            self.assertIs(lets_rows(walk, region, carpet, colour, single), True)
            if not moments:
                self.assertIs(lets_rows(walk, region, carpet, colour, ()), True)
                continue
            self.assertIs(lets_rows(walk, region, carpet, colour, single[1:]), False)
            self.assertIs(lets_rows(walk, region, carpet, colour, single + single[:1]), False)
            self.assertIs(lets_rows(walk, region, carpet, colour, single[1:] + (single[-1],)), len(moments) == 1)
            for wrong in (walk.end() + 1, -1, GREAT) + tuple(set(range(walk.end())) - set(moments))[:3]:
                self.assertIs(lets_rows(walk, region, carpet, colour, single + ((wrong, 1, 1),)), False)
                self.assertIs(lets_rows(walk, region, carpet, colour, single[1:] + ((wrong, 5, 1),)), False)

    def test_great_rows(self):
        walk = Walk((0, 0), [("EN", LONG)])
        self.same(rows_of_stands(walk, ALL, plain(3), 4), ())
        # It is on 0 of chess at each even moment.
        right = [
            ((0, 2, LONG + 1),),
            ((0, 2, 1), (2, 2, LONG)),
            ((2 * LONG, 1, 1), (0, 2, LONG)),
            ((2, 4, LONG // 2), (0, 4, LONG // 2 + 1)),
            ((0, 6, (LONG + 2) // 3), (2, 12, (LONG + 2) // 6), (4, 6, (LONG + 2) // 3 - 1), (8, 12, (LONG + 2) // 6)),
            ((0, 2, LONG // 2), (LONG, 4, LONG // 4 + 1), (LONG + 2, 4, LONG // 4)),
        ]
        for value in right:
            self.assertIs(lets_rows(walk, ALL, CHESS, 0, value), True)
            self.assertIs(lets_rows(walk, ALL, CHESS, 0, value[::-1]), True)
            for wrong in self.bent(value):
                self.assertIs(lets_rows(walk, ALL, CHESS, 0, wrong), False)
            self.assertIs(lets_rows(walk, ALL, CHESS, 1, value), False)
            self.assertIs(lets_rows(walk, Region([(0, LONG, None, None)]), CHESS, 0, value), False)
        # As many moments as there are, one of them twice and one left out.
        self.assertIs(lets_rows(walk, ALL, CHESS, 0, ((0, 2, LONG), (10 ** 29, 1, 1))), False)
        self.assertIs(lets_rows(walk, ALL, CHESS, 0, ((0, 2, LONG), (2 * LONG - 2, 1, 1))), False)
        self.assertIs(lets_rows(walk, ALL, CHESS, 0, ((0, 2, LONG), (10 ** 29 + 1, 1, 1))), False)
        self.assertIs(lets_rows(walk, ALL, CHESS, 0, ((0, 4, LONG // 2 + 1), (0, 4, LONG // 2))), False)
        self.assertIs(lets_rows(walk, ALL, CHESS, 0, ((0, 1, LONG + 1),)), False)

    def bent(self, value):
        """Rows that have one moment twice, one too many, one left out, or other ones."""
        first, gap, many = value[0]
        rest = value[1:]
        found = [((first, gap, many + 1),) + rest, ((first + 1, gap, many),) + rest, ((first - gap, gap, many),) + rest,
                 value + value[:1], value + ((4, 1, 1),), value + ((5, 1, 1),), value + ((2 * LONG + 2, 1, 1),)]
        if many > 1:
            found += [((first, gap, many - 1),) + rest, ((first, gap + 1, many),) + rest]
        else:
            found.append(rest)
        return found

    def test_no_rows(self):
        walk = Walk((0, 0), [("EN", 2)])
        right = ((0, 2, 3),)
        self.assertIs(lets_rows(walk, ALL, CHESS, 0, right), True)
        wrong = [[(0, 2, 3)], ([0, 2, 3],), ((0, 2),), ((0, 2, 3, 1),), ((True, 2, 3),), ((0, True, 3),),
                 ((0, 2, True),), ((0, 2, "3"),), ((0, 0, 3),), ((0, 2, 0), (0, 2, 3)), (None,), "023",
                 ((0, -2, 3),), ((4, -2, 3),), ((0, 2, -3),), ((False, 2, 3),), {0: 2}, Everything(),
                 (Everything(),), ((0, 2, Everything()),), Touchy(), (Touchy(),)]
        for value in NO_PAPERS + wrong:
            self.assertIs(lets_rows(walk, ALL, CHESS, 0, value), False)
        # No moments at all are told by no rows.
        self.assertIs(lets_rows(walk, Region(), None, None, ()), True)
        self.assertIs(lets_rows(walk, Region(), None, None, []), False)

    def test_wrong_arguments(self):
        self.refuses_stands(rows_of_stands, RIGHT)
        right = {**RIGHT, "value": ()}
        self.refuses_stands(lets_rows, right)


if __name__ == "__main__":
    unittest.main()
