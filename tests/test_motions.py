"""Motions, and what they move."""

import itertools
import random

from endlessplane.carpets import Carpet, plain
from endlessplane.closed import enclosed, is_closed
from endlessplane.counts import counts_of
from endlessplane.cuts import is_finite, size_of
from endlessplane.dice import hand, is_die, rolled, sides
from endlessplane.errors import BadPart, NotSo
from endlessplane.floorcounts import census
from endlessplane.floors import Floor
from endlessplane.inside import hand_of, inside
from endlessplane.lasting import left_counts, rounds
from endlessplane.meetings import meet_runs
from endlessplane.motions import (
    TURNS, Motion, moved_carpet, moved_closed, moved_die, moved_floor, moved_region, moved_walk,
)
from endlessplane.prints import print_counts
from endlessplane.regions import Region
from endlessplane.stands import rows_of_stands
from endlessplane.unlike import Trail
from endlessplane.walkforms import told_again
from endlessplane.walks import Walk
from endlessplane.windings import winding
from tests.helpers import (
    CELLS, CHESS, FAR, GREAT, NO_PAIRS, SLANTED, SPARSE, THREE, Everything, PlaneCase, Touchy, cells_walked, every_die,
    moments_in, some_carpets, some_floors, some_regions, some_walks, stairs,
)
from tests.test_closed import CLOSED, LONG, OPEN

# To which cell each turn leads the cell (x, y), by the document.
LED = {
    "stay": lambda x, y: (x, y), "left": lambda x, y: (-y, x), "back": lambda x, y: (-x, -y),
    "right": lambda x, y: (y, -x), "mirror": lambda x, y: (-x, y), "flip": lambda x, y: (x, -y),
    "swap": lambda x, y: (y, x), "cross": lambda x, y: (-y, -x),
}
CORNERS = {"left": (1, 0), "mirror": (1, 0), "right": (0, 1), "flip": (0, 1), "back": (1, 1), "cross": (1, 1),
           "stay": (0, 0), "swap": (0, 0)}
SHIFTS = [(0, 0), (3, -5), (-1, 0), (GREAT, -GREAT + 7)]
MOTIONS = [Motion(turn, shift) for turn in TURNS for shift in SHIFTS]
SHORT = [Motion(turn, shift) for turn in TURNS for shift in ((0, 0), (2, -3))]
NO_TURNS = [None, True, 5, "", "Stay", "stay ", "up", b"stay", ("stay",), ["stay"], {}, Everything(), Touchy()]


def led_by_hand(motion, cell):
    """The cell to which a motion leads a cell."""
    x, y = LED[motion.turn](*cell)
    return (x + motion.shift[0], y + motion.shift[1])


class MotionTest(PlaneCase):
    def test_made(self):
        self.same(TURNS, ("stay", "left", "back", "right", "mirror", "flip", "swap", "cross"))
        motion = Motion(shift=(1, 2), turn="left")
        self.same((motion.turn, motion.shift, Motion("flip").shift), ("left", (1, 2), (0, 0)))
        self.no_iteration(motion)
        self.unlike_all(motion)
        for one, other in itertools.product(MOTIONS, repeat=2):
            self.same(one == other, (one.turn, one.shift) == (other.turn, other.shift))
        self.same(Motion("left") == Everything(), False)

    def test_wrong_arguments(self):
        for value in NO_TURNS:
            for shift in [(0, 0)] + NO_PAIRS:
                self.bears(BadPart, "part", "turn", Motion, value, shift)
                self.bears(BadPart, "part", "turn", Motion, shift=shift, turn=value)
        for turn in TURNS:
            for value in NO_PAIRS:
                self.bears(BadPart, "part", "shift", Motion, turn, value)
                self.bears(BadPart, "part", "shift", Motion, shift=value, turn=turn)
        for motion in SHORT:
            for value in NO_PAIRS:
                for function in (motion.led, motion.led_back):
                    self.bears(BadPart, "part", "cell", function, value)
                    self.bears(BadPart, "part", "cell", function, cell=value)
            for value in (None, 5, "stay", (0, 0), THREE, CHESS):
                with self.assertRaises(TypeError):
                    motion >> value
                with self.assertRaises(TypeError):
                    value >> motion

    def test_led(self):
        for motion in MOTIONS:
            for cell in ((0, 0), (1, 0), (0, 1), (-3, 7), (GREAT, 5), (-GREAT, GREAT)):
                goal = led_by_hand(motion, cell)
                self.same(motion.led(cell), goal)
                self.same(motion.led_back(goal), cell)
                self.same(motion.led(cell=cell), goal)
                self.same(motion.led_back(cell=goal), cell)

    def test_signs(self):
        self.same([Motion(turn, (4, 4)).sign() for turn in TURNS], [1, 1, 1, 1, -1, -1, -1, -1])

    def test_one_and_then_another_one(self):
        unlike = set()
        for one, other in itertools.product(MOTIONS, SHORT):
            both = one >> other
            self.same(both.sign(), one.sign() * other.sign())
            for cell in ((0, 0), (2, 5), (-7, 1)):
                self.same(both.led(cell), led_by_hand(other, led_by_hand(one, cell)))
            unlike.add((one.turn, other.turn, both.turn))
        self.same(len(unlike), 64)
        self.same(Motion("left") >> Motion("left"), Motion("back"))
        self.same(Motion("left", (1, 0)) >> Motion("mirror", (0, 5)), Motion("swap", (-1, 5)))

    def test_back(self):
        for motion in MOTIONS:
            back = motion.reversed_motion()
            self.same(motion >> back, Motion("stay"))
            self.same(back >> motion, Motion("stay"))
            self.same(back.reversed_motion(), motion)
            self.same(back.led(led_by_hand(motion, (5, -8))), (5, -8))


class CarpetsTest(PlaneCase):
    def test_cell_by_cell(self):
        carpets = some_carpets(351, 25, (1, 2, 3, 4, 6)) + [CHESS, plain(7), Carpet(4, 2, 3, ["0123", "4567", "8901"])]
        for index, (carpet, motion) in enumerate(itertools.product(carpets, SHORT)):
            moved = moved_carpet(motion, carpet)
            for cell in CELLS[index % 3::3]:
                self.assertEqual(moved.colour(led_by_hand(motion, cell)), carpet.colour(cell))
            self.same((moved.a, moved.b, moved.d, moved.rows), moved.normal())
            self.same(moved.shares(), carpet.shares())
            self.same(moved_carpet(motion.reversed_motion(), moved), carpet)

    def test_great_ones(self):
        for carpet, motion in itertools.product((SLANTED, SPARSE, Carpet(48, 7, 3, ["0" * 48, "1" * 48, "01" * 24])),
                                                MOTIONS):
            moved = moved_carpet(carpet=carpet, motion=motion)
            self.same((moved.a, moved.b, moved.d, moved.rows), moved.normal())
            for cell in CELLS[::7] + [(GREAT, -GREAT)]:
                self.assertEqual(moved.colour(led_by_hand(motion, cell)), carpet.colour(cell))

    def test_turned_by_hand(self):
        columns = Carpet(3, 0, 1, ["012"])
        self.same(moved_carpet(Motion("left"), columns).normal(), (1, 0, 3, ("0", "1", "2")))
        self.same(moved_carpet(Motion("right"), columns).normal(), (1, 0, 3, ("0", "2", "1")))
        self.same(moved_carpet(Motion("mirror"), columns).normal(), (3, 0, 1, ("021",)))
        self.same(moved_carpet(Motion("mirror", (1, 0)), columns).normal(), (3, 0, 1, ("102",)))
        self.same(moved_carpet(Motion("stay", (1, 9)), columns).normal(), (3, 0, 1, ("201",)))


class RegionsTest(PlaneCase):
    def test_cell_by_cell(self):
        regions = some_regions(352, 12, (None, None)) + some_regions(353, 6) + [Region(), ~Region(), ~THREE]
        for region, motion in itertools.product(regions, SHORT):
            moved = moved_region(motion, region)
            for cell in CELLS[::2]:
                self.assertEqual(led_by_hand(motion, cell) in moved, cell in region)
            self.same((is_finite(moved), size_of(moved)), (is_finite(region), size_of(region)))
            self.same(moved_region(motion.reversed_motion(), moved), region)

    def test_great_ones(self):
        for region, motion in list(itertools.product((FAR, ~FAR), MOTIONS)) + [(stairs(), SHORT[3])]:
            moved = moved_region(region=region, motion=motion)
            self.same(size_of(moved), size_of(region))
            self.same(moved_region(motion.reversed_motion(), moved), region)
            for cell in ((0, 0), (-1, 25), (3, 10 ** 29), (5, 10 ** 30), (-500, 20), (-501, 20), (4, 5)):
                self.same(led_by_hand(motion, cell) in moved, cell in region)

    def test_by_hand(self):
        half = Region([(3, None, -1, 1)])
        for turn, box in (("stay", (3, None, -1, 1)), ("left", (0, 2, 3, None)), ("back", (None, -2, 0, 2)),
                          ("right", (-1, 1, None, -2)), ("mirror", (None, -2, -1, 1)), ("flip", (3, None, 0, 2)),
                          ("swap", (-1, 1, 3, None)), ("cross", (0, 2, None, -2))):
            self.same(moved_region(Motion(turn), half), Region([box]))

    def test_floors(self):
        for floor, motion in itertools.product(some_floors(354, 8, (None,)), SHORT):
            moved = moved_floor(motion, floor)
            self.same(len(moved), len(floor))
            for cell in CELLS[::5]:
                self.assertEqual(moved.colour(led_by_hand(motion, cell)), floor.colour(cell))
            for level in range(len(floor) + 1):
                self.same(moved.carpet_of(level), moved_carpet(motion, floor.carpet_of(level)))
                self.same(moved.region_of(level), moved_region(motion, floor.region_of(level)))
            self.same(moved_floor(floor=moved, motion=motion.reversed_motion()), floor)
            for region in (THREE, ~THREE):
                self.same(census(moved, moved_region(motion, region)), census(floor, region))


class WalksTest(PlaneCase):
    def test_step_by_step(self):
        walks = some_walks(355, 12) + [Walk((3, 4)), told_again(Walk((0, 1), [("EEN", 2), ("SW", 3)]), 5)]
        for walk, motion in itertools.product(walks, MOTIONS):
            moved = moved_walk(motion, walk)
            self.same(cells_walked(moved), [led_by_hand(motion, cell) for cell in cells_walked(walk)])
            self.same([(len(word), times) for word, times in moved.parts], [(len(word), times) for word,
                                                                            times in walk.parts])
            self.same(moved_walk(walk=moved, motion=motion.reversed_motion()), walk)

    def test_great_ones(self):
        walk = Walk((GREAT, 1), [("EEN", LONG), ("S", GREAT), ("W", 0)])
        for motion in MOTIONS:
            moved = moved_walk(motion, walk)
            for moment in (0, 1, 2 * LONG, 3 * LONG + 5, walk.end()):
                self.same(moved.at(moment), led_by_hand(motion, walk.at(moment)))

    def test_closed(self):
        for index, (walk, motion) in enumerate(itertools.product(CLOSED[::2], SHORT)):
            moved = moved_closed(motion, walk)
            x, y = led_by_hand(motion, walk.cell)
            more_x, more_y = CORNERS[motion.turn]
            self.same(moved.cell, (x + more_x, y + more_y))
            self.same(moved.parts, moved_walk(motion, walk).parts)
            self.same(is_closed(moved), True)
            self.same(enclosed(moved), motion.sign() * enclosed(walk))
            for cell in CELLS[index % 23::23]:
                self.same(winding(moved, led_by_hand(motion, cell)), motion.sign() * winding(walk, cell))

    def test_closed_by_hand(self):
        around = Walk((0, 0), [("ENWS", 1)])
        for turn in TURNS:
            motion = Motion(turn, (7, 9))
            moved = moved_closed(walk=around, motion=motion)
            self.same(winding(moved, led_by_hand(motion, (0, 0))), motion.sign())
        walk = Walk((0, 0), [("E", LONG), ("N", LONG), ("W", LONG), ("S", LONG)])
        moved = moved_closed(Motion("back", (5, 5)), walk)
        self.same((moved.cell, winding(moved, (5, 5)), winding(moved, (6, 5)), winding(moved, (6 - LONG, 5)),
                   winding(moved, (5 - LONG, 5))), ((6, 6), 1, 0, 1, 0))

    def test_insides(self):
        for word, motion in itertools.product(("ENWS", "EENWWS", "NNEESSWW", "EENNWSWS"), SHORT):
            moved = moved_closed(motion, Walk((2, 5), [(word, 1)]))
            self.same(hand_of(moved.parts[0][0]), motion.sign() * hand_of(word))
            self.same(inside(moved.cell, moved.parts[0][0]), moved_region(motion, inside((2, 5), word)))


class DiceTest(PlaneCase):
    def test_by_sides(self):
        names = {(1, 0): "east", (0, 1): "north", (-1, 0): "west", (0, -1): "south"}
        for die, motion in itertools.product(every_die(), SHORT):
            moved = moved_die(motion, die)
            self.same(is_die(moved), True)
            told, turned = sides(die), sides(moved)
            self.same((turned["top"], turned["bottom"]), (told["top"], told["bottom"]))
            for step, name in names.items():
                self.same(turned[names[LED[motion.turn](*step)]], told[name])
            self.same(hand(moved) == hand(die), motion.sign() == 1)
            self.same(moved_die(die=moved, motion=motion.reversed_motion()), die)
        self.same(moved_die(Motion("left"), (1, 2, 3)), (1, 3, 5))

    def test_rolled(self):
        for walk, motion in itertools.product(some_walks(356, 6), SHORT):
            moved = moved_walk(motion, walk)
            for (word, times), (turned, _) in zip(walk.parts, moved.parts):
                self.same(rolled(moved_die(motion, (5, 1, 3)), turned, times), moved_die(motion,
                                                                                         rolled((5, 1, 3), word,
                                                                                                times)))


class SameOfWhatIsMovedTest(PlaneCase):
    def setUp(self):
        chance = random.Random(357)
        walks, regions = some_walks(358, 20), some_regions(359, 20, (None,))
        carpets = some_carpets(360, 20, (1, 2, 3, 4))
        self.rows = [(chance.choice(SHORT + MOTIONS), *row) for row in zip(walks, walks[::-1], regions, carpets)]

    def test_counts(self):
        for motion, _, _, region, carpet in self.rows:
            self.same(counts_of(moved_carpet(motion, carpet), moved_region(motion, region)), counts_of(carpet, region))

    def test_stands_and_meetings(self):
        for motion, walk, other, region, carpet in self.rows:
            moved, other_moved = moved_walk(motion, walk), moved_walk(motion, other)
            place, moved_place = (region, carpet, 1), (moved_region(motion, region), moved_carpet(motion, carpet), 1)
            self.same(moments_in(rows_of_stands(moved, *moved_place)), moments_in(rows_of_stands(walk, *place)))
            self.same(moments_in(meet_runs(moved, other_moved)), moments_in(meet_runs(walk, other)))
            die = (6, 4, 2)
            self.same(print_counts(moved, moved_die(motion, die), *moved_place), print_counts(walk, die, *place))

    def test_trails_and_what_is_left(self):
        for motion, walk, _, region, carpet in self.rows:
            moved = moved_walk(motion, walk)
            place, moved_place = (region, carpet, 0), (moved_region(motion, region), moved_carpet(motion, carpet), 0)
            for (word, _), (turned, _) in zip(walk.parts, moved.parts):
                self.same(rounds(turned, LONG), rounds(word, LONG))
                self.same(left_counts(moved.cell, turned, 50, moved_die(motion, (1, 3, 2)), *moved_place),
                          left_counts(walk.cell, word, 50, (1, 3, 2), *place))
                one, other = Trail(walk.cell, word, 50), Trail(moved.cell, turned, 50)
                self.same(other.visited(), one.visited())
                self.same(other.cells_in(moved_place[0]), one.cells_in(region))


class WrongArgumentsTest(PlaneCase):
    def test_all(self):
        motion = Motion("left", (3, 4))
        for function, name, value in (
                (moved_carpet, "carpet", CHESS), (moved_region, "region", THREE), (moved_floor, "floor", Floor(CHESS)),
                (moved_walk, "walk", Walk((0, 0))), (moved_closed, "walk", Walk((0, 0))),
                (moved_die, "die", (1, 2, 3))):
            self.refuses(function, {"motion": motion, name: value})
        for walk in OPEN:
            for motion in MOTIONS:
                self.bears(NotSo, "word", "closed", moved_closed, motion, walk)
            self.bears(BadPart, "part", "motion", moved_closed, None, walk)
