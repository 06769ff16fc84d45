"""The examples of the document, and what its general rules say of all functions."""

import doctest
import inspect
import os
import unittest

from endlessplane import (
    carpets, closed, console, countpapers, counts, cuts, dice, errors, floorcounts, floorparting, floors, inside,
    lasting,
    laying, likeness, lines, live, meetings, meetpapers, motions, nthcells, nthstands, parting, periods, prints,
    regions, sieves, stands, stretches, stripes, texts, unlike, walkforms, walks, windings, windpapers,
)
from endlessplane.carpets import Carpet, plain
from endlessplane.closed import enclosed
from endlessplane.console import Console
from endlessplane.counts import counts_of, longest_run, richest_row
from endlessplane.cuts import pieces, size_of
from endlessplane.dice import order, rolled
from endlessplane.floorcounts import census, floor_nth
from endlessplane.floors import Floor, buried, idle, slimmed
from endlessplane.inside import loops
from endlessplane.lasting import left_counts, rounds
from endlessplane.laying import laid, laid_over, pairs_met, recolouring, showings, together
from endlessplane.likeness import motions_between
from endlessplane.lines import both_remainders, in_box, remainder_of
from endlessplane.meetings import many_meetings, nth_meeting
from endlessplane.motions import TURNS
from endlessplane.nthcells import nth_of_colour, place_in
from endlessplane.periods import Lattice
from endlessplane.regions import Region
from endlessplane.sieves import Sieve
from endlessplane.stretches import Spread, Stretch
from endlessplane.unlike import Trail
from endlessplane.walkforms import parting_moment
from endlessplane.walks import Walk
from endlessplane.windings import crossings, row_sum, winding
from endlessplane.windpapers import word_paper

FUNCTIONS = {
    lines: {
        "greatest_divisor": "one other", "least_multiple": "one other", "in_stretch": "a b stretch",
        "in_box": "cell step box", "on_number": "a b number", "on_cell": "cell step goal",
        "remainder_of": "a b r p", "both_remainders": "one other",
    },
    periods: {
        "is_shift": "value", "spanned": "one other", "common_lattice": "one other", "joined_lattice": "one other",
    },
    carpets: {"plain": "colour", "woven": "lattice colour_of"},
    parting: {
        "parting_cell": "one other", "breaking_cell": "carpet shift", "likeness_paper": "one other",
        "shows_alike": "one other value", "shows_parted": "one other value", "least_paper": "carpet",
        "shows_least": "carpet lattice value",
    },
    laying: {
        "recoloured": "carpet colours", "laid": "one other table", "together": "carpets", "pairs_met": "one other",
        "recolouring": "one other", "laid_over": "carpets clear", "shown_at": "carpets clear cell",
        "showings": "carpets clear", "hidden": "carpets clear", "shown_carpet": "carpets clear index",
    },
    regions: {"of_slabs": "slabs", "row_at": "region y"},
    cuts: {
        "is_finite": "region", "size_of": "region", "hull_of": "region", "boxes_of": "region", "nth_cell": "region n",
        "place_of": "region cell", "cells_of": "region", "pieces": "regions", "region_parting": "one other",
    },
    counts: {
        "count_of": "carpet region colour", "counts_of": "carpet region", "richest_row": "carpet region colour",
        "longest_run": "carpet region colour", "row_count": "carpet region colour y",
    },
    nthcells: {
        "nth_of_colour": "carpet region colour n", "ahead_of": "carpet region colour cell",
        "place_in": "carpet region cell", "next_behind": "carpet region colour cell",
        "last_ahead": "carpet region colour cell",
    },
    countpapers: {
        "is_block": "carpet value", "pattern_count": "carpet block colour", "count_paper": "carpet region colour",
        "nth_paper": "carpet region colour n", "shows_count": "carpet region value", "shows_nth": "carpet region value",
    },
    floors: {"buried": "floor", "idle": "floor", "slimmed": "floor", "can_change": "floor level"},
    floorcounts: {
        "floor_count": "floor region colour", "census": "floor region", "floor_nth": "floor region colour n",
        "floor_place": "floor region colour cell",
    },
    floorparting: {
        "are_alike": "one other", "floor_parting": "one other", "does_part": "one other cell",
        "agree_in": "one other region", "floor_parting_in": "one other region", "unlike_count": "one other region",
    },
    walks: {"shift_of": "word", "offsets_of": "word", "root_of": "word"},
    stands: {
        "stands": "walk region carpet=None colour=None",
        "stands_ahead": "walk moment region carpet=None colour=None", "colours_of": "walk region carpet",
        "floor_stands": "walk region floor colour", "visits": "walk cell",
        "rows_of_stands": "walk region carpet=None colour=None", "lets_rows": "walk region carpet colour value",
    },
    nthstands: {
        "nth_stand": "walk region carpet colour n", "first_stand": "walk region carpet colour",
        "last_stand": "walk region carpet colour", "longest_absence": "walk cell",
        "stand_paper": "walk region carpet colour n", "lets_stand": "walk region carpet colour value",
    },
    walkforms: {
        "are_same": "one other", "parting_moment": "one other", "tidied": "walk", "is_tidy": "walk",
        "cut": "walk first last", "turned_back": "walk", "walk_joined": "one other", "told_again": "walk times",
        "moved_to": "walk cell",
    },
    meetings: {
        "meet_runs": "one other * lead=0", "pass_runs": "one other", "many_meetings": "one other * lead=0",
        "many_passes": "one other", "nth_meeting": "one other n * lead=0", "nth_pass": "one other n",
        "last_meeting": "one other * lead=0", "meetings_in": "one other region * lead=0",
        "meetings_on": "one other region ground colour * lead=0",
    },
    meetpapers: {"meet_paper": "one other", "is_meet_paper": "one other value", "shown_by": "paper"},
    closed: {"is_closed": "walk", "backwards": "walk", "reach": "walk", "enclosed": "walk"},
    windings: {
        "winding": "walk cell", "row_sum": "walk y", "region_sum": "walk region", "crossings": "walk y",
    },
    inside: {
        "is_closed_word": "word", "is_simple": "word", "hand_of": "word", "inside": "corner word",
        "within": "corner word", "loops": "word",
    },
    windpapers: {
        "word_paper": "word", "shows_word": "word value", "winding_paper": "walk cell",
        "shows_winding": "walk cell value",
    },
    dice: {
        "is_die": "value", "is_text": "value", "sides": "die", "rolled": "die text times=1", "order": "text",
        "hand": "die", "way": "die other", "are_even": "die other", "can_come": "die start goal other",
        "all_there": "die start goal",
    },
    prints: {
        "die_at": "walk die moment", "print_at": "walk die moment",
        "print_count": "walk die face region=None carpet=None colour=None",
        "print_counts": "walk die region=None carpet=None colour=None",
        "nth_print": "walk die face n region=None carpet=None colour=None",
        "last_print": "walk die face region=None carpet=None colour=None",
    },
    lasting: {
        "rounds": "word times", "is_start_last": "word times", "last_count": "word times",
        "last_moment": "cell word times goal", "left_on": "cell word times goal die",
        "left_count": "cell word times die face region=None carpet=None colour=None",
        "left_counts": "cell word times die region=None carpet=None colour=None",
        "left_paper": "cell word times goal die", "accepts_left": "cell word times goal die value",
    },
    motions: {
        "moved_carpet": "motion carpet", "moved_region": "motion region", "moved_floor": "motion floor",
        "moved_walk": "motion walk", "moved_closed": "motion walk", "moved_die": "motion die",
    },
    likeness: {
        "least_form": "carpet", "are_like": "one other", "motions_between": "one other", "motion_between": "one other",
        "own_motions": "carpet", "shows_like": "one other motion",
    },
    stripes: {
        "striped_counts": "carpet sieve region", "striped_count": "carpet sieve region colour",
        "stripe_of": "carpet sieve", "nth_striped": "carpet sieve region colour n",
    },
    texts: {
        "write_carpet": "carpet", "write_region": "region", "write_floor": "floor", "write_walk": "walk",
        "write_die": "die", "read_carpet": "text", "read_region": "text", "read_floor": "text", "read_walk": "text",
        "read_die": "text",
    },
}

MEMBERS = {"count": "r=0 p=1", "first": "r=0 p=1", "final": "r=0 p=1", "nth": "n r=0 p=1", "below": "number r=0 p=1"}

CLASSES = {
    stretches: {
        "Stretch": {
            "__init__": "low=None high=None", "holds": "number", "moved": "by", "turned": "", "common": "other",
            "__le__": None, "__eq__": None, **MEMBERS,
        },
        "Spread": {
            "__init__": "stretches=()", "told": "", "all_but": "", "holds": "number", "moved": "by", "turned": "",
            "is_endless": "", "bounds": "", "__or__": None, "__and__": None, "__sub__": None, "__le__": None,
            "__eq__": None, **MEMBERS,
        },
    },
    periods: {
        "Lattice": {
            "__init__": "a b d", "area": "", "place": "cell", "order": "shift", "places": "", "__contains__": None,
            "__le__": None, "__eq__": None,
        },
    },
    carpets: {
        "Carpet": {
            "__init__": "a b d rows", "colour": "cell", "lattice": "", "least": "", "normal": "", "in_normal": "",
            "shares": "", "moved_by": "shift", "is_period": "shift", "__eq__": None,
        },
    },
    regions: {
        "Region": {
            "__init__": "boxes=()", "slabs": "", "__contains__": None, "__or__": None, "__and__": None, "__sub__": None,
            "__invert__": None, "__le__": None, "__eq__": None,
        },
    },
    floors: {
        "Floor": {
            "__init__": "ground layers=()", "colour": "cell", "carpet_of": "level", "region_of": "level",
            "shown": "level", "shower": "cell", "told_layers": "", "__eq__": None, "__len__": None,
            "laid_on": "region carpet", "without": "level", "exchanged": "level", "recoloured": "colours",
        },
    },
    walks: {
        "Walk": {
            "__init__": "cell parts=()", "end": "", "at": "moment", "part_at": "moment", "goal": "", "begins": "",
            "steps": "first last", "__eq__": None,
        },
    },
    unlike: {
        "Trail": {
            "__init__": "cell word times", "strands": "", "many_cells": "", "__contains__": None,
            "cells_in": "region", "cells_on": "ground colour * region=None", "visits_of": "cell", "visited": "",
            "fresh_up_to": "moment", "nth_fresh": "n",
        },
    },
    motions: {
        "Motion": {
            "__init__": "turn shift=(0, 0)", "sign": "", "led": "cell", "led_back": "cell", "__rshift__": None,
            "reversed_motion": "", "__eq__": None,
        },
    },
    sieves: {
        "Sieve": {
            "__init__": "ks", "product": "", "many": "", "is_left": "value", "nth_left": "n", "place_of": "x",
            "left_below": "x", "next_left": "x", "left_in": "stretch", "__eq__": None, "leaves_alike": "other",
        },
    },
    live: {
        "Live": {
            "__init__": "carpet", "now": "", "names": "", "walk_of": "name", "where": "name", "die_of": "name",
            "colour_under": "name", "lay": "region carpet", "lift": "", "put": "name cell die=None", "take": "name",
            "go": "name word times=1", "stood": "name colour", "stood_at": "name colour n", "met": "one other",
            "undo": "", "redo": "", "steps": "", "attempt": "deed", "trial": "", "twin": "", "__eq__": None,
        },
    },
    console: {"Console": {"__init__": "", "run": "line"}},
    errors: {
        "BadPart": {"__init__": "part"}, "BadNumber": {"__init__": "number"}, "BadIndex": {"__init__": "index"},
        "BadName": {"__init__": "name"}, "NotSo": {"__init__": "word"}, "BadText": {"__init__": "line"},
        "TooMany": {"__init__": "limit"}, "NothingToUndo": {"__init__": "name"},
    },
}


def parameters(function):
    """The names of the parameters, with their default values."""
    told = []
    for parameter in inspect.signature(function).parameters.values():
        if parameter.kind is inspect.Parameter.KEYWORD_ONLY and "*" not in told:
            told.append("*")
        no_default = parameter.default is inspect.Parameter.empty
        told.append(parameter.name if no_default else f"{parameter.name}={parameter.default}")
    return " ".join(told)


class ExamplesTest(unittest.TestCase):
    def test_whole_numbers(self):
        some = Spread([Stretch(4, 6), Stretch(0, 4), Stretch(9)])
        way = in_box((-7, 5), (2, -1), (0, 10, None, None))
        self.assertEqual(
            ([(one.low, one.high) for one in some.told()], some.nth(3, 1, 2), some.below(12, 0, 3),
             (way.low, way.high), remainder_of(1, 6, 3, 4), both_remainders((2, 4), (0, 6))),
            ([(0, 6), (9, None)], 9, 3, (4, 9), (1, 2), (6, 12)))

    def test_carpets(self):
        chess = Carpet(4, 0, 2, ["0101", "1010"])
        self.assertEqual(
            (chess.normal(), chess.colour((-1, 10 ** 30)), chess.is_period((1, 3)),
             chess == Carpet(2, 1, 1, ["01"])),
            ((2, 1, 1, ('01',)), 1, True, True))

    def test_carpets_laid(self):
        chess, columns = Carpet(2, 1, 1, ["01"]), Carpet(2, 0, 1, ["01"])
        unlike = [[int(one != other) for other in range(10)] for one in range(10)]
        self.assertEqual(
            (together([chess, columns]), pairs_met(chess, columns), recolouring(chess, columns),
             laid(chess, columns, unlike).normal(), showings([chess, columns], [0])),
            (Lattice(2, 0, 2), {(0, 0): 1, (0, 1): 1, (1, 0): 1, (1, 1): 1}, None, (1, 0, 2, ("0", "1")), [2, 2]))
        over = laid_over([chess, columns], [0])
        self.assertEqual([place for place in Lattice(2, 0, 2).places() if over.colour(place) == 0], [(0, 0)])

    def test_regions(self):
        two = Region([(0, 2, 0, 2), (1, 3, 1, 3)])
        self.assertEqual(
            (two.slabs(), size_of(two), size_of(~two), (5, 5) in ~two, len(pieces([two]))),
            (((0, 1, ((0, 2),)), (1, 2, ((0, 3),)), (2, 3, ((1, 3),))), 7, None, True, 11))

    def test_counts(self):
        chess, three = Carpet(2, 1, 1, ["01"]), Region([(0, 3, 0, 3)])
        self.assertEqual(
            (counts_of(chess, three)[:3], richest_row(chess, three, 0), longest_run(chess, three, 1),
             nth_of_colour(chess, three, 0, 3), place_in(chess, three, (1, 1))),
            ([5, 4, 0], (2, 0), (1, (1, 0)), (0, 2), 2))

    def test_floors(self):
        floor = Floor(plain(0), [(Region([(0, 2, 0, 2)]), Carpet(2, 1, 1, ["01"]))])
        box = Region([(-1, 3, -1, 3)])
        self.assertEqual(census(floor, box)[:3], (14, 2, 0))
        self.assertEqual([floor_nth(floor, box, 1, n) for n in range(3)], [(1, 0), (0, 1), None])
        covered = floor.laid_on(Region([(0, 2, 0, 2)]), plain(0))
        self.assertEqual((buried(covered), idle(covered), idle(covered.without(1))), ([1], [1], [1]))
        self.assertEqual(len(slimmed(covered)), 0)

    def test_walks(self):
        walk = Walk((0, 0), [("EN", 10 ** 30), ("W", 3)])
        self.assertEqual(
            (walk.end(), walk.at(2 * 10 ** 30), walk.goal() == (10 ** 30 - 3, 10 ** 30), walk.part_at(5),
             parting_moment(walk, Walk((0, 0), [("ENEN", 10 ** 30)])) - 2 * 10 ** 30),
            (2000000000000000000000000000003, (1000000000000000000000000000000, 1000000000000000000000000000000), True,
             (0, 2, 1), 1))

    def test_trails_and_meetings(self):
        one, other = Walk((0, 0), [("EN", 10 ** 30)]), Walk((0, 0), [("NE", 10 ** 30)])
        self.assertEqual(
            (Trail((0, 0), "EEW", 5).strands(), many_meetings(one, other) == 10 ** 30 + 1, nth_meeting(one, other, 4)),
            ([((0, 0), [(0, 7)])], True, 8))

    def test_closed_walks(self):
        around = Walk((0, 0), [("E", 3), ("N", 2), ("W", 3), ("S", 2)])
        self.assertEqual(
            (enclosed(around), winding(around, (2, 1)), winding(around, (3, 1)), row_sum(around, 0),
             crossings(around, 0)),
            (6, 1, 0, 3, [(3, 0, 1, 1), (0, 0, 1, -1)]))
        self.assertEqual(
            (word_paper("ENWS"), loops("ENWSWE")),
            (('inside', 1, ((0, 1, 0, 1),)), [((0, 0), 'ENWS'), ((0, 0), 'WE')]))

    def test_dice(self):
        self.assertEqual(
            (rolled((1, 2, 3), "E"), order("E"), order("EN"), rounds("EEW", 5)), ((4, 2, 1), 4, 3, [5, 4, 0]))
        self.assertEqual(left_counts((0, 0), "E", 4, (1, 2, 3)), {1: 1, 2: 0, 3: 1, 4: 1, 5: 0, 6: 2})

    def test_sieves_and_likeness(self):
        sieve = Sieve([2, 3])
        self.assertEqual(
            ([sieve.nth_left(n) for n in range(5)], sieve.left_below(7), sieve.product(), sieve.many()),
            ([0, 2, 6, 8, 12], 3, 6, 2))
        found = motions_between(Carpet(2, 1, 1, ["01"]), Carpet(2, 1, 1, ["10"]))
        self.assertEqual([motion.turn for motion in found], list(TURNS))

    def test_console(self):
        told = Console()
        self.assertEqual(
            [told.run(line)
             for line in ["begin 2 1 1 01", "put ann 0 0 1 2 3", "go ann EN 1000000000000", "where ann"]],
            ['ok', 'ok', 'ok', '1000000000000 1000000000000'])
        self.assertEqual(
            [told.run(line) for line in ["stood ann 0", "die ann", "lay 0 2 0 2 on 1 0 1 5", "stood ann 5"]],
            ['1000000000001', '5 4 1', 'ok', '3'])

    def test_readme(self):
        folder = os.path.dirname(os.path.dirname(os.path.abspath(__file__)))
        failed, tried = doctest.testfile(os.path.join(folder, "README.md"), module_relative=False)
        self.assertEqual(failed, 0)
        self.assertGreater(tried, 0)


class InterfaceTest(unittest.TestCase):
    def test_functions(self):
        for module, functions in FUNCTIONS.items():
            for name, wanted in functions.items():
                function = vars(module)[name]
                self.assertEqual(function.__module__, module.__name__)
                self.assertEqual(parameters(function), wanted, name)

    def test_classes(self):
        for module, classes in CLASSES.items():
            for name, methods in classes.items():
                told = vars(module)[name]
                self.assertEqual(told.__module__, module.__name__)
                for method, wanted in methods.items():
                    self.assertIn(method, vars(told), name)
                    if wanted is not None:
                        self.assertEqual(parameters(vars(told)[method]), ("self " + wanted).strip(), name)


if __name__ == "__main__":
    unittest.main()
