"""Prints of dice that go with walks."""

import itertools

from endlessplane.cuts import is_finite
from endlessplane.prints import die_at, last_print, nth_print, print_at, print_count, print_counts
from endlessplane.regions import Region
from endlessplane.stands import rows_of_stands, stands
from endlessplane.walkforms import told_again
from endlessplane.walks import Walk
from tests.helpers import (
    CHESS, GREAT, SLANTED, THREE, PlaneCase, cells_walked, every_die, moments_in, some_carpets, some_regions,
    some_walks,
)
from tests.test_dice import rolled_by_hand

LONG = 10 ** 30
DIE = (1, 2, 3)
WALKS = some_walks(331, 24, 6, 6, 5) + [
    Walk((2, -3)), Walk((0, 0), [("E", 0)]), Walk((0, 0), [("EN", 12), ("W", 0), ("S", 7)]),
    Walk((0, 0), [("ENWS", 9)]),
    Walk((1, 1), [("E" * 9 + "N" * 9, 2)]), told_again(Walk((0, 0), [("EEN", 3), ("WS", 4), ("N", 2)]), 3),
]
PLACES = list(zip(
    some_regions(332, 8, (None,)) + [Region(), ~Region(), None, None], [None] * 12, [None] * 12))
PLACES += list(zip(some_regions(333, 8) + [None] * 4, some_carpets(334, 12, (1, 2, 3, 4)), [0, 1] * 6))
GREAT_WALK = Walk((0, 0), [("E", LONG), ("NNE", LONG), ("WS", LONG // 7), ("ENWS", GREAT)])


def texts_walked(walk):
    """The texts of the steps up to each moment."""
    whole = "".join(word * times for word, times in walk.parts)
    return [whole[:moment] for moment in range(len(whole) + 1)]


def prints_by_hand(walk, die, place):
    """The pairs (moment, face) of the prints at a place, step by step."""
    region, carpet, colour = place
    return [(moment, 7 - rolled_by_hand(die, text)[0])
            for moment, (cell, text) in enumerate(zip(cells_walked(walk), texts_walked(walk)))
            if (region is None or cell in region) and (carpet is None or carpet.colour(cell) == colour)]


class DieAtTest(PlaneCase):
    def test_step_by_step(self):
        for index, walk in enumerate(WALKS):
            die = every_die()[7 * index % 48]
            texts = texts_walked(walk)
            for moment, text in enumerate(texts):
                told = rolled_by_hand(die, text)
                self.same(die_at(walk, die, moment), told)
                self.same(print_at(walk, die, moment), 7 - told[0])
            for moment in (len(texts), len(texts) + 1, GREAT):
                self.same((die_at(walk, die, moment), print_at(walk, die, moment)), (None, None))
        self.same(die_at(moment=1, die=DIE, walk=Walk((0, 0), [("E", 1)])), (4, 2, 1))
        self.same(print_at(moment=1, die=DIE, walk=Walk((0, 0), [("E", 1)])), 3)

    def test_great_numbers(self):
        walk = Walk((0, 0), [("E", LONG), ("EN", LONG), ("S", GREAT)])
        text = "E" * (LONG % 4) + "EN" * (LONG % 3)
        self.same(die_at(walk, DIE, 3 * LONG), rolled_by_hand(DIE, text))
        self.same(die_at(walk, DIE, 3 * LONG + 5), rolled_by_hand(DIE, text + "S"))
        self.same(die_at(walk, DIE, 3 * LONG + GREAT), rolled_by_hand(DIE, text + "S" * (GREAT % 4)))
        self.same(die_at(walk, DIE, 3 * LONG + GREAT + 1), None)
        self.same(die_at(walk, DIE, LONG + 7), rolled_by_hand(DIE, "E" * (LONG % 4) + "E"))
        self.same(print_at(walk, DIE, 0), 6)

    def test_wrong_arguments(self):
        for function in (die_at, print_at):
            self.refuses(function, {"walk": GREAT_WALK, "die": DIE, "moment": 0})


class PrintsTest(PlaneCase):
    def test_step_by_step(self):
        many = 0
        for index, (walk, place) in enumerate(itertools.product(WALKS, PLACES)):
            if (index + index // len(PLACES)) % 4 > 0:
                continue
            die = every_die()[11 * index % 48]
            found = prints_by_hand(walk, die, place)
            counts = print_counts(walk, die, *place)
            self.same(list(counts), [1, 2, 3, 4, 5, 6])
            for face in range(1, 7):
                moments = [moment for moment, other in found if other == face]
                self.same(counts[face], len(moments))
                if (index + face) % 5 == 0:
                    self.same(print_count(walk, die, face, *place), len(moments))
                    self.same(last_print(walk, die, face, *place), moments[-1] if moments else None)
                    told = [nth_print(walk, die, face, n, *place) for n in range(len(moments) + 2)]
                    self.same(told, moments + [None, None])
            many += len(found)
        self.assertGreater(many, 1000)

    def test_all_faces_are_the_stands(self):
        for walk in WALKS[:12] + [GREAT_WALK]:
            for region, carpet, colour in PLACES[::3]:
                told = Region([(None, None, None, None)]) if region is None else region
                counts = print_counts(walk, DIE, region, carpet, colour)
                self.same(sum(counts.values()), stands(walk, told, carpet, colour))
                if is_finite(told) and walk != GREAT_WALK:
                    rows = rows_of_stands(walk, told, carpet, colour)
                    wanted = [nth_print(walk, DIE, face, n, region, carpet, colour)
                              for face in counts for n in range(counts[face])]
                    self.same(sorted(wanted), moments_in(rows))

    def test_great_numbers(self):
        walk = Walk((0, 0), [("E", 4 * LONG)])
        # From (1, 2, 3) by E the faces 6, 3, 1, 4 are printed, and so on.
        self.same(print_counts(walk, DIE), {1: LONG, 2: 0, 3: LONG, 4: LONG, 5: 0, 6: LONG + 1})
        self.same(print_count(walk, DIE, 6, Region([(None, 4 * LONG, None, None)])), LONG)
        self.same(print_count(walk, DIE, 3, None, CHESS, 1), LONG)
        self.same(print_count(walk, DIE, 3, None, CHESS, 0), 0)
        self.same(nth_print(walk, DIE, 4, 10 ** 29), 4 * 10 ** 29 + 3)
        self.same(nth_print(walk, DIE, 6, LONG), 4 * LONG)
        self.same(nth_print(walk, DIE, 6, LONG + 1), None)
        self.same(last_print(walk, DIE, 1), 4 * LONG - 2)
        self.same(nth_print(walk, DIE, 1, 0, Region([(LONG, None, None, None)])), LONG + 2)
        self.same(print_count(walk, DIE, 2), 0)
        self.same(nth_print(walk, DIE, 2, 0), None)
        self.same(last_print(walk, DIE, 5), None)
        # Round one square the faces come again behind each third time.
        walk = Walk((0, 0), [("ENWS", 3 * LONG)])
        first = print_counts(Walk((0, 0), [("ENWS", 3)]), DIE)
        wanted = {face: (many - (face == 6)) * LONG + (face == 6) for face, many in first.items()}
        self.same(print_counts(walk, DIE), wanted)

    def test_many_colours(self):
        walk = Walk((3, 0), [("EN", 5 * LONG), ("EEN", LONG)])
        found = print_counts(walk, DIE, None, SLANTED, 1)
        self.same(sum(found.values()), stands(walk, ~Region(), SLANTED, 1))
        moments = [nth_print(walk, DIE, face, 10 ** 20, None, SLANTED, 1) for face in found if found[face]]
        for moment in moments:
            self.same(SLANTED.colour(walk.at(moment)), 1)
        self.assertGreater(len(moments), 2)

    def test_names(self):
        walk = Walk((0, 0), [("E", 8)])
        place = {"colour": 1, "carpet": CHESS, "region": THREE}
        self.same(print_count(face=3, die=DIE, walk=walk, **place), 1)
        self.same(print_counts(die=DIE, walk=walk, **place), {1: 0, 2: 0, 3: 1, 4: 0, 5: 0, 6: 0})
        self.same(nth_print(n=0, face=3, die=DIE, walk=walk, **place), 1)
        self.same(last_print(face=3, die=DIE, walk=walk, **place), 1)
        self.same(print_count(walk, DIE, 6, region=THREE), 1)
        self.same(print_count(walk, DIE, 6, carpet=CHESS, colour=0), 3)

    def test_wrong_arguments(self):
        walk = GREAT_WALK
        kinds = {"region": "told region", "carpet": "told carpet"}
        faces = {"walk": walk, "die": DIE, "face": 6}
        place = {"region": THREE, "carpet": CHESS, "colour": 0}
        for function, right in ((print_count, faces), (last_print, faces), (nth_print, {**faces, "n": 0}),
                                (print_counts, {"walk": walk, "die": DIE})):
            self.refuses(function, {**right, **place}, kinds)
            self.refuses(function, {**right, **place, "region": None}, kinds)
            self.refuses(function, right)
            without = {**right, "region": None, "carpet": None, "colour": None}
            self.refuses(function, without, {**kinds, "colour": "no colour"})
            self.same(function(*without.values()), function(*right.values()))
