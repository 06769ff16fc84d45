"""Trails: their strands, cells, visits and fresh moments."""

import unittest

from endlessplane.carpets import plain
from endlessplane.counts import count_of
from endlessplane.errors import BadNumber, BadPart
from endlessplane.floors import Floor
from endlessplane.regions import Region
from endlessplane.unlike import Trail
from endlessplane.walks import Walk, offsets_of, shift_of
from tests.helpers import (
    CHESS, COLUMNS, GREAT, NO_COLOURS, NO_GROUNDS, NO_NUMBERS, NO_PAIRS, NO_REGIONS, NO_WORDS, SLANTED, SPARSE,
    Everything, PlaneCase, Touchy, cells_walked, some_carpets, some_floors, some_regions, some_words,
)

LONG = 10 ** 30
ALL = ~Region()
WORDS = some_words(171, 25, 5) + some_words(172, 12, 9, "EENW") + some_words(173, 6, 12, "EW")
WORDS += ["E", "S", "EEW", "EW", "ENWS", "WWE", "ENEWWS", "EENWSEE", "NNSSSNNN", "ENNWSS", "EEENWWS", "NEEEESNWWWS"]
WORDS += ["E" * 24, "ENWS" * 6, "EENNWWWSSS" * 2]
TRAILS = [((3 - index, index), word, times) for index, word in enumerate(WORDS) for times in (0, 1, 2, 5)]
GREAT_WORDS = ["E", "EEW", "ENES", "EENWSEE", "NNSSSNNN", "WWSSENW", "EEENWWS", "NNEESSWN", "ENWSEE"]


def cells_of_trail(told):
    """The cells of a trail by moments."""
    cell, word, times = told
    return cells_walked(Walk(cell, [(word, times)]))


def strands_by_hand(told):
    """The strands of a trail, cell by cell."""
    cell, word, times = told
    cells = set(cells_of_trail(told))
    x, y = shift_of(word)
    if times == 0 or (x, y) == (0, 0):
        return [(one, [(0, 1)]) for one in sorted(cells, key=lambda one: (one[1], one[0]))]
    spots = [(cell[0] + a, cell[1] + b) for a, b in offsets_of(word)]
    found = []
    for spot in sorted(set(spots), key=lambda one: (one[1], one[0])):
        # The first cell of a strand is that of its spots that has no other one behind it.
        if any((spot[0] - n * x, spot[1] - n * y) in spots for n in range(1, 30)):
            continue
        numbers = [n for n in range(times + 30) if (spot[0] + n * x, spot[1] + n * y) in cells]
        begins = [n for n in numbers if n - 1 not in numbers]
        ends = [n + 1 for n in numbers if n + 1 not in numbers]
        found.append((spot, list(zip(begins, ends))))
    return found


class StrandsTest(PlaneCase):
    def test_example(self):
        self.same(Trail((0, 0), "EEW", 5).strands(), [((0, 0), [(0, 7)])])

    def test_cell_by_cell(self):
        for told in TRAILS:
            trail = Trail(*told)
            cells = set(cells_of_trail(told))
            self.same(trail.strands(), strands_by_hand(told))
            self.same(trail.many_cells(), len(cells))
            x, y = shift_of(told[1])
            of_strands = [(cell[0] + n * x, cell[1] + n * y)
                          for cell, row in trail.strands() for low, high in row for n in range(low, high)]
            self.same(len(of_strands), len(cells))
            self.assertEqual(set(of_strands), cells)

    def test_edges(self):
        self.same(Trail((2, 3), "EEN", 0).strands(), [((2, 3), [(0, 1)])])
        self.same(Trail((2, 3), "ENWS", LONG).strands(),
                  [((2, 3), [(0, 1)]), ((3, 3), [(0, 1)]), ((2, 4), [(0, 1)]), ((3, 4), [(0, 1)])])
        self.same(Trail((0, 0), "NNE", 2).strands(), [((0, 0), [(0, 3)]), ((0, 1), [(0, 2)]), ((0, 2), [(0, 2)])])
        # Back and forth: the strand begins at a cell to which the word comes late.
        self.same(Trail((0, 0), "WWWEEEEE", 1).strands(), [((-3, 0), [(0, 3)]), ((-2, 0), [(0, 3)])])
        # In the lower row it is on the columns 0, 1, 2, and 4, 5, which lie apart.
        self.same(Trail((0, 0), "NEEEESNWWWS", 2).strands(), [((0, 0), [(0, 3), (4, 6)]), ((0, 1), [(0, 6)])])
        self.same(Trail((0, 0), "NEEEESNWWWS", 3).strands(), [((0, 0), [(0, 7)]), ((0, 1), [(0, 7)])])

    def test_great_numbers(self):
        self.same(Trail((5, -GREAT), "EEW", LONG).strands(), [((5, -GREAT), [(0, LONG + 2)])])
        self.same(Trail((5, -GREAT), "EEW", LONG).many_cells(), LONG + 2)
        self.same(Trail((0, 0), "ENES", LONG).strands(), [((0, 0), [(0, LONG + 1)]), ((1, 0), [(0, LONG)]),
                                                         ((1, 1), [(0, LONG)]), ((2, 1), [(0, LONG)])])
        for word in GREAT_WORDS:
            few, many = Trail((1, 2), word, 60), Trail((1, 2), word, LONG)
            # Each more time has as many cells more, behind the first ones.
            each = Trail((1, 2), word, 61).many_cells() - few.many_cells()
            self.same(many.many_cells(), few.many_cells() + (LONG - 60) * each)
            self.same([cell for cell, _ in many.strands()], [cell for cell, _ in few.strands()])

    def test_every_returned_list_is_new(self):
        trail = Trail((0, 0), "EN", 3)
        trail.strands().clear()
        trail.strands()[0][1].clear()
        trail.visited().clear()
        self.same(trail.strands(), [((0, 0), [(0, 4)]), ((1, 0), [(0, 3)])])
        self.same(trail.visited(), {1: 7})

    def test_is_no_iterable(self):
        self.no_iteration(Trail((0, 0), "EN", 3))
        self.unlike_all(Trail((0, 0), "EN", 3))


class CellsTest(PlaneCase):
    def test_has(self):
        for told in TRAILS[::3]:
            trail, cells = Trail(*told), cells_of_trail(told)
            for x in range(-30, 30, 3):
                for y in range(-8, 30, 5):
                    self.assertIs((x, y) in trail, (x, y) in cells)
            self.assertTrue(all(cell in trail for cell in cells))
        trail = Trail((0, 0), "EN", LONG)
        self.assertIs((LONG, LONG) in trail, True)
        self.assertIs((LONG + 1, LONG) in trail, False)
        self.assertIs((10 ** 29 + 1, 10 ** 29) in trail, True)
        for value in NO_PAIRS + [(0, 0.0), Everything(), Touchy(), (Touchy(), 0)]:
            self.assertIs(value in trail, False)

    def test_in_regions(self):
        regions = some_regions(174, 6, [None] * 3) + some_regions(175, 3) + [Region(), ALL]
        for told in TRAILS[::2]:
            trail, cells = Trail(*told), set(cells_of_trail(told))
            for region in regions:
                self.same(trail.cells_in(region=region), sum(cell in region for cell in cells))

    def test_on_carpets_and_floors(self):
        regions = some_regions(176, 2, [None] * 3) + some_regions(177, 1) + [None]
        grounds = some_carpets(178, 5, [1, 2, 3, 4], "012") + some_floors(179, 7, [None] * 3, "012") + [SLANTED]
        for index, told in enumerate(TRAILS):
            trail, cells = Trail(*told), set(cells_of_trail(told))
            for ground in grounds[index % 4::4]:
                for region in regions:
                    colours = [ground.colour(cell) for cell in cells if region is None or cell in region]
                    for colour in range(3):
                        self.same(trail.cells_on(ground, colour, region=region), colours.count(colour))
                        if region is None:
                            self.same(trail.cells_on(colour=colour, ground=ground), colours.count(colour))

    def test_great_numbers(self):
        row = Trail((-7, 4), "EEW", LONG)
        self.same(row.cells_in(Region([(0, None, None, None)])), LONG + 2 - 7)
        self.same(row.cells_in(Region([(0, None, None, 4)])), 0)
        self.same(row.cells_on(CHESS, 0), LONG // 2 + 1)
        self.same(row.cells_on(SLANTED, 1), count_of(SLANTED, Region([(-7, LONG - 5, 4, 5)]), 1))
        self.same(row.cells_on(SPARSE, 1, region=Region([(0, 10 ** 29, None, None)])),
                  count_of(SPARSE, Region([(0, 10 ** 29, 4, 5)]), 1))
        layers = [(Region([(None, 10, None, None)]), plain(7)), (Region([(10 ** 29, None, 0, 9)]), COLUMNS)]
        floor = Floor(CHESS, layers)
        self.same(row.cells_on(floor, 7), 17)
        self.same(row.cells_on(floor, 7, region=Region([(0, None, 0, None)])), 10)
        self.same(row.cells_on(floor, 1), (10 ** 29 - 10) // 2 + (LONG - 10 ** 29) // 2 - 3)
        stairs = Trail((0, 0), "EN", LONG)
        self.same(stairs.cells_on(CHESS, 1), LONG)
        self.same(stairs.cells_on(CHESS, 1, region=Region([(5, 10, None, None), (None, 0, None, None)])), 5)
        self.same(stairs.cells_in(ALL), 2 * LONG + 1)
        self.same(Trail((0, 0), "ENWS", LONG).cells_on(CHESS, 1), 2)

    def test_wrong_arguments(self):
        for value in NO_PAIRS:
            self.bears(BadPart, "part", "cell", Trail, value, None, None)
            self.bears(BadPart, "part", "cell", Trail, times=1, word="E", cell=value)
        for value in NO_WORDS:
            self.bears(BadPart, "part", "word", Trail, (0, 0), value, None)
            self.bears(BadPart, "part", "word", Trail, times=1, word=value, cell=(0, 0))
        for value in NO_NUMBERS:
            self.bears(BadNumber, "number", value, Trail, (0, 0), "E", value)
            self.bears(BadNumber, "number", value, Trail, times=value, word="E", cell=(0, 0))
        trail = Trail((0, 0), "EN", 3)
        for value in NO_REGIONS:
            self.bears(BadPart, "part", "region", trail.cells_in, value)
            self.bears(BadPart, "part", "region", trail.cells_in, region=value)
            if value is not None:
                self.bears(BadPart, "part", "region", trail.cells_on, CHESS, 1, region=value)
                self.bears(BadPart, "part", "region", trail.cells_on, Floor(CHESS), colour=1, region=value)
        for value in NO_COLOURS:
            self.bears(BadNumber, "number", value, trail.cells_on, CHESS, value, region=5)
            self.bears(BadNumber, "number", value, trail.cells_on, Floor(CHESS), colour=value)
        for value in NO_GROUNDS:
            self.bears(BadPart, "part", "ground", trail.cells_on, value, None, region=5)
            self.bears(BadPart, "part", "ground", trail.cells_on, colour=0, ground=value)
        with self.assertRaises(TypeError):
            trail.cells_on(CHESS, 0, ALL)


class VisitsTest(PlaneCase):
    def test_moment_by_moment(self):
        for told in TRAILS:
            trail, cells = Trail(*told), cells_of_trail(told)
            for cell in set(cells) | {(0, 0), (50, 50)}:
                self.same(trail.visits_of(cell=cell), cells.count(cell))
            counts = [cells.count(cell) for cell in set(cells)]
            visited = trail.visited()
            self.same(list(visited.items()), [(number, counts.count(number)) for number in sorted(set(counts))])
            self.assertLessEqual(max(visited), max(told[2], 1) * len(told[1]) + 1)

    def test_fresh(self):
        for told in TRAILS:
            trail, cells = Trail(*told), cells_of_trail(told)
            fresh = [moment for moment, cell in enumerate(cells) if cell not in cells[:moment]]
            for moment in range(len(cells)):
                many = len([at for at in fresh if at <= moment])
                self.same(trail.fresh_up_to(moment=moment), many)
            for n, moment in enumerate(fresh + [None, None]):
                self.same(trail.nth_fresh(n=n), moment)
            self.assertIsNone(trail.nth_fresh(GREAT))

    def test_great_numbers(self):
        for word in GREAT_WORDS:
            many, few, next_one = Trail((1, 2), word, LONG), Trail((1, 2), word, 60), Trail((1, 2), word, 61)
            each = {number: next_one.visited()[number] - few.visited().get(number, 0) for number in next_one.visited()}
            wanted = {number: next_one.visited()[number] + (LONG - 61) * more for number, more in each.items()}
            self.same(many.visited(), wanted)
            self.same(sum(number * cells for number, cells in many.visited().items()), len(word) * LONG + 1)
            end = len(word) * LONG
            self.same(many.fresh_up_to(end), many.many_cells())
            for n in (0, 1, 7, LONG // 3, many.many_cells() - 1):
                moment = many.nth_fresh(n)
                self.same(many.fresh_up_to(moment), n + 1)
                self.same(many.fresh_up_to(moment - 1) if moment else 0, n)
            self.assertIsNone(many.nth_fresh(many.many_cells()))
        square = Trail((0, 0), "ENWS", LONG)
        self.same((square.visited(), square.visits_of((0, 0)), square.visits_of((1, 1))),
                  ({LONG: 3, LONG + 1: 1}, LONG + 1, LONG))
        self.same((square.fresh_up_to(3), square.fresh_up_to(4 * LONG), square.nth_fresh(3), square.nth_fresh(4)),
                  (4, 4, 3, None))
        self.same(Trail((0, 0), "EW", LONG).visited(), {LONG: 1, LONG + 1: 1})
        self.same(Trail((0, 0), "EEW", LONG).visited(), {1: 2, 2: 1, 3: LONG - 1})

    def test_visits_are_few_unless_the_word_leads_back(self):
        for told in TRAILS:
            if shift_of(told[1]) != (0, 0):
                self.assertLessEqual(max(Trail(*told).visited()), len(told[1]) + 1)

    def test_wrong_arguments(self):
        trail = Trail((0, 0), "EN", 3)
        for value in NO_PAIRS:
            self.bears(BadPart, "part", "cell", trail.visits_of, value)
            self.bears(BadPart, "part", "cell", trail.visits_of, cell=value)
        for value in NO_NUMBERS:
            self.bears(BadNumber, "number", value, trail.nth_fresh, value)
            self.bears(BadNumber, "number", value, trail.nth_fresh, n=value)
        for value in NO_NUMBERS + [7, GREAT]:
            self.bears(BadNumber, "number", value, trail.fresh_up_to, value)
            self.bears(BadNumber, "number", value, trail.fresh_up_to, moment=value)
        self.same(trail.fresh_up_to(6), 7)
        self.bears(BadNumber, "number", 1, Trail((0, 0), "EN", 0).fresh_up_to, 1)


if __name__ == "__main__":
    unittest.main()
