"""When walks meet and pass."""

import random
import unittest

from endlessplane.errors import BadNumber
from endlessplane.floors import Floor
from endlessplane.meetings import (
    last_meeting, many_meetings, many_passes, meet_runs, meetings_in, meetings_on, nth_meeting, nth_pass, pass_runs,
)
from endlessplane.regions import Region
from endlessplane.walkforms import moved_to, told_again, turned_back, walk_joined
from endlessplane.walks import Walk
from tests.helpers import (
    CHESS, COLUMNS, GREAT, NO_INTEGERS, NO_NUMBERS, SLANTED, THREE, PlaneCase, cells_walked, moments_in, some_carpets,
    some_floors, some_regions, some_walks,
)

LONG = 10 ** 30
ALL = ~Region()
EN = Walk((0, 0), [("EN", LONG)])
NE = Walk((0, 0), [("NE", LONG)])
KINDS = {"one": "walk", "other": "walk"}
PAIR = {"one": EN, "other": NE}
EMPTY = Walk((0, 0))


def pairs_by_chance():
    """Pairs of walks by chance, many of which meet often."""
    chance = random.Random(181)
    walks = some_walks(182, 16, 4, 4, 6) + some_walks(183, 16, 6, 3, 8, "EW") + some_walks(187, 16, 6, 2, 9, "EWS")
    walks += [EMPTY, Walk((1, 0), [("E", 0)])]
    words = ["EW", "WE", "ENWS", "WNES", "EWE", "WEW", "NS", "EEWW", "SENW", "E", "W"]
    for _ in range(30):
        parts = [(chance.choice(words), chance.randrange(5)) for _ in range(6)]
        walks.append(Walk((0, 0), parts))
    pairs = []
    for _ in range(200):
        one, other = chance.choice(walks), chance.choice(walks)
        cell = chance.choice([one.cell, other.cell, (one.cell[0] + 1, one.cell[1]), (one.cell[0] + 1, one.cell[1] + 1)])
        pairs.append((one, moved_to(other, cell)))
        if chance.randrange(8) == 0:
            pairs.append((one, turned_back(one)))
            pairs.append((one, walk_joined(one, other)))
            pairs.append((one, one))
    return pairs


PAIRS = pairs_by_chance()


def meetings_by_hand(one, other, lead=0):
    """The pairs (moment, cell) of the meetings, step by step."""
    cells, others = cells_walked(one), cells_walked(other)
    return [(moment, cell) for moment, cell in enumerate(cells)
            if 0 <= moment + lead < len(others) and others[moment + lead] == cell]


def passes_by_hand(one, other):
    """The moments of the passes, step by step."""
    cells, others = cells_walked(one), cells_walked(other)
    return [moment for moment in range(1, min(len(cells), len(others)))
            if cells[moment] == others[moment - 1] != others[moment] == cells[moment - 1]]


class RunsCase(PlaneCase):
    def tells(self, runs, moments):
        """Check that runs tell just these moments."""
        self.assertIs(runs.__class__, list)
        self.same(moments_in(runs), moments)
        self.same([run[0] for run in runs], sorted(run[0] for run in runs))
        for run in runs:
            self.assertIs(run.__class__, tuple)
            first, step, many = run
            self.assertTrue(first >= 0 and step >= 1 and many >= 1 and (step == 1 or many > 1), run)


class MeetingsTest(RunsCase):
    def test_example(self):
        self.same((many_meetings(EN, NE), nth_meeting(EN, NE, 4)), (LONG + 1, 8))

    def test_step_by_step(self):
        met, led = 0, 0
        for one, other in PAIRS:
            for lead in (0, 1, -1, 3, -4, 11, 50, -50):
                moments = [moment for moment, _ in meetings_by_hand(one, other, lead)]
                self.tells(meet_runs(one, other, lead=lead), moments)
                self.same(many_meetings(one, other, lead=lead), len(moments))
                self.same(last_meeting(one, other, lead=lead), moments[-1] if moments else None)
                for n, moment in list(enumerate(moments + [None, None]))[::2]:
                    self.same(nth_meeting(one, other, n, lead=lead), moment)
                met, led = met + (lead == 0) * len(moments), led + (lead != 0) * len(moments)
        self.assertGreater(min(met, led), 1000)

    def test_names_and_defaults(self):
        for one, other in PAIRS[::8]:
            moments = [moment for moment, _ in meetings_by_hand(one, other)]
            self.tells(meet_runs(other=other, one=one), moments)
            self.same(many_meetings(other=other, one=one), len(moments))
            self.same(last_meeting(lead=0, other=other, one=one), moments[-1] if moments else None)
            self.same(nth_meeting(n=0, other=other, one=one), moments[0] if moments else None)
            self.same(meetings_in(region=ALL, other=other, one=one), len(moments))
        for function in (meet_runs, many_meetings, last_meeting):
            with self.assertRaises(TypeError):
                function(EN, NE, 0)
        with self.assertRaises(TypeError):
            nth_meeting(EN, NE, 0, 0)
        with self.assertRaises(TypeError):
            meetings_in(EN, NE, ALL, 0)

    def test_every_returned_list_is_new(self):
        row = Walk((0, 0), [("E", 9)])
        meet_runs(row, row).clear()
        pass_runs(row, Walk((1, 0), [("W", 1)])).clear()
        self.tells(meet_runs(row, row), list(range(10)))
        self.tells(pass_runs(row, Walk((1, 0), [("W", 1)])), [1])

    def test_other_way_round(self):
        for one, other in PAIRS[::4]:
            for lead in (0, 2, -5):
                moments = [moment + lead for moment in moments_in(meet_runs(one, other, lead=lead))]
                self.tells(meet_runs(other, one, lead=-lead), moments)

    def test_in_regions(self):
        regions = some_regions(184, 4, [None] * 3) + [ALL, Region(), THREE]
        grounds = some_carpets(185, 4, [1, 2, 3, 4], "012") + some_floors(186, 5, [None] * 2, "012") + [CHESS]
        for index, (one, other) in enumerate(PAIRS[::3]):
            for lead in (0, 1 - index % 5):
                cells = [cell for _, cell in meetings_by_hand(one, other, lead)]
                for region in regions[index % 2::2]:
                    had = [cell for cell in cells if cell in region]
                    self.same(meetings_in(one, other, region, lead=lead), len(had))
                    ground = grounds[index % len(grounds)]
                    colours = [ground.colour(cell) for cell in had]
                    for colour in range(3):
                        self.same(meetings_on(one, other, region, ground, colour, lead=lead), colours.count(colour))
                        self.same(meetings_on(lead=lead, colour=colour, ground=ground, region=region, other=other,
                                              one=one), colours.count(colour))

    def test_edges(self):
        row = Walk((0, 0), [("E", 9)])
        for one, other, moments in [
            (EMPTY, EMPTY, [0]), (EMPTY, Walk((0, 1)), []), (EMPTY, row, [0]), (row, EMPTY, [0]),
            (row, row, list(range(10))), (row, Walk((0, 1), [("E", 9)]), []), (row, Walk((9, 0), [("W", 9)]), []),
            (row, Walk((8, 0), [("W", 9)]), [4]), (row, Walk((9, 4), [("S", 4), ("N", 5)]), []),
            (row, Walk((9, 9), [("S", 9)]), [9]), (row, Walk((9, 9), [("S", 8)]), []),
            (row, Walk((-2, 0), [("E", 2)]), []), (row, Walk((0, 0), [("N", 1), ("S", 1), ("EEE", 3)]), [0]),
        ]:
            self.tells(meet_runs(one, other), moments)
            self.tells(meet_runs(other, one), moments)
        self.tells(meet_runs(row, EMPTY, lead=0), [0])
        self.tells(meet_runs(row, Walk((5, 0)), lead=-5), [5])
        self.tells(meet_runs(Walk((5, 0)), row, lead=5), [0])
        self.tells(meet_runs(row, Walk((5, 0)), lead=-10), [])
        self.tells(meet_runs(row, row, lead=1), [])
        self.tells(meet_runs(row, Walk((-3, 0), [("E", 9)]), lead=3), list(range(7)))
        self.tells(meet_runs(row, row, lead=GREAT), [])
        self.tells(meet_runs(row, row, lead=-GREAT), [])

    def test_runs_of_one_moment(self):
        self.same(meet_runs(Walk((0, 0), [("E", 9)]), Walk((8, 0), [("W", 9)])), [(4, 1, 1)])
        self.same(meet_runs(EMPTY, EMPTY), [(0, 1, 1)])
        for run in meet_runs(EN, Walk((LONG, 0), [("WN", LONG)])):
            self.same(run[1:], (1, 1))

    def test_great_numbers(self):
        # Both come along the row 0, one of them faster back and forth.
        east, back = Walk((0, 0), [("E", 3 * LONG)]), Walk((0, 0), [("EEW", LONG)])
        self.same(meet_runs(east, back), [(0, 1, 1), (1, 1, 1), (2, 1, 1)])
        west = Walk((3 * LONG, 0), [("W", 3 * LONG)])
        self.tells(meet_runs(east, west), [3 * LONG // 2])
        self.tells(meet_runs(east, west, lead=2), [3 * LONG // 2 - 1])
        self.tells(meet_runs(east, west, lead=1), [])
        self.same(many_meetings(EN, EN), 2 * LONG + 1)
        self.same(many_meetings(EN, EN, lead=2), 0)
        self.same(many_meetings(EN, Walk((-1, -1), [("EN", LONG)]), lead=2), 2 * LONG - 1)
        self.same(last_meeting(EN, Walk((-1, -1), [("EN", LONG)]), lead=2), 2 * LONG - 2)
        self.same(many_meetings(EN, Walk((1, 1), [("EN", LONG)]), lead=-2), 2 * LONG - 1)
        self.same(nth_meeting(EN, Walk((1, 1), [("EN", LONG)]), 0, lead=-2), 2)
        self.same((last_meeting(EN, NE), nth_meeting(EN, NE, 10 ** 29), nth_meeting(EN, NE, LONG + 1)),
                  (2 * LONG, 2 * 10 ** 29, None))
        # Two of four moments they are on the same cell, then always.
        one, other = Walk((0, 0), [("EW", 3 * LONG)]), Walk((0, 0), [("ENWS", LONG), ("EWN", 0), ("EWEW", LONG)])
        self.same(many_meetings(one, other), 4 * LONG + 1)
        self.same(many_meetings(EN, NE, lead=0), LONG + 1)

    def test_on_great_numbers(self):
        box = Region([(0, 10 ** 29, None, None)])
        self.same(meetings_in(EN, NE, box), 10 ** 29)
        self.same(meetings_on(EN, NE, box, CHESS, 0), 10 ** 29)
        self.same(meetings_on(EN, NE, box, COLUMNS, 1), 10 ** 29 // 2)
        self.same(meetings_on(EN, NE, ALL, SLANTED, 1), 0)
        floor = Floor(COLUMNS, [(Region([(None, None, None, 10 ** 28)]), CHESS)])
        self.same(meetings_on(EN, NE, ALL, floor, 1), (LONG - 10 ** 28) // 2)
        self.same(meetings_on(EN, EN, ALL, floor, 1), LONG)

    def test_walks_of_many_parts(self):
        one = told_again(Walk((0, 0), [("EN", 2), ("W", 3), ("SE", 1), ("N", 0), ("ESW", 2), ("NN", 1)]), 12)
        other = told_again(Walk((0, 0), [("NE", 2), ("S", 1), ("WN", 2), ("ES", 2)]), 16)
        for lead in (0, 4, -7):
            moments = [moment for moment, _ in meetings_by_hand(one, other, lead)]
            self.tells(meet_runs(one, other, lead=lead), moments)
        self.tells(pass_runs(one, other), passes_by_hand(one, other))
        self.tells(meet_runs(one, one), list(range(one.end() + 1)))

    def test_wrong_arguments(self):
        self.refuses(meet_runs, {**PAIR, "lead": 0}, KINDS, ["lead"])
        self.refuses(many_meetings, {**PAIR, "lead": 0}, KINDS, ["lead"])
        self.refuses(last_meeting, {**PAIR, "lead": 0}, KINDS, ["lead"])
        self.refuses(nth_meeting, {**PAIR, "n": 0, "lead": 0}, KINDS, ["lead"])
        self.refuses(meetings_in, {**PAIR, "region": THREE, "lead": 0}, KINDS, ["lead"])
        right = {**PAIR, "region": THREE, "ground": CHESS, "colour": 0, "lead": 0}
        self.refuses(meetings_on, right, KINDS, ["lead"])
        self.refuses(meetings_on, {**right, "ground": Floor(CHESS)}, KINDS, ["lead"])
        for value in NO_NUMBERS:
            self.bears(BadNumber, "number", value, nth_meeting, EN, NE, value)
        for value in NO_INTEGERS:
            self.bears(BadNumber, "number", value, meet_runs, EMPTY, EMPTY, lead=value)


class PassesTest(RunsCase):
    def test_step_by_step(self):
        some = 0
        for one, other in PAIRS:
            moments = passes_by_hand(one, other)
            self.tells(pass_runs(one, other), moments)
            self.tells(pass_runs(other=one, one=other), moments)
            self.same(many_passes(other=other, one=one), len(moments))
            for n, moment in enumerate(moments + [None, None]):
                self.same(nth_pass(one, other, n), moment)
            some += len(moments)
        self.assertGreater(some, 40)

    def test_towards_each_other(self):
        one = Walk((0, 0), [("E", LONG)])
        self.same(pass_runs(one, Walk((LONG - 1, 0), [("W", LONG)])), [(LONG // 2, 1, 1)])
        self.same(pass_runs(one, Walk((LONG, 0), [("W", LONG)])), [])
        self.same(pass_runs(one, Walk((LONG - 1, 1), [("W", LONG)])), [])
        self.same(pass_runs(EMPTY, one), [])
        self.same(pass_runs(one, one), [])
        self.same(nth_pass(n=0, other=Walk((1, 0), [("W", 1)]), one=one), 1)
        # By turns each stands where the other one stood.
        there, back = Walk((0, 0), [("EW", LONG)]), Walk((1, 0), [("WE", LONG)])
        self.same(many_passes(there, back), 2 * LONG)
        self.same((nth_pass(there, back, 0), nth_pass(there, back, LONG), nth_pass(there, back, 2 * LONG)),
                  (1, LONG + 1, None))
        self.same(many_meetings(there, back), 0)
        # One that goes round a square one way and one that goes the other way pass on two of its sides.
        left, right = Walk((0, 0), [("ENWS", LONG)]), Walk((1, 0), [("WNES", LONG)])
        self.same(many_passes(left, right), 2 * LONG)
        self.same([nth_pass(left, right, n) for n in range(4)], [1, 3, 5, 7])

    def test_wrong_arguments(self):
        self.refuses(pass_runs, PAIR, KINDS)
        self.refuses(many_passes, PAIR, KINDS)
        self.refuses(nth_pass, {**PAIR, "n": 0}, KINDS)


if __name__ == "__main__":
    unittest.main()
