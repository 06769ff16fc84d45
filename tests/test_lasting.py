"""What is left of prints."""

import itertools
import random

from endlessplane.lasting import (
    accepts_left, is_start_last, last_count, last_moment, left_count, left_counts, left_on, left_paper, rounds,
)
from endlessplane.regions import Region
from endlessplane.unlike import Trail
from endlessplane.walks import Walk
from tests.helpers import (
    CHESS, GREAT, NO_PAPERS, SLANTED, THREE, Everything, PlaneCase, Touchy, cells_walked, every_die, every_word,
    some_carpets, some_regions, some_words,
)
from tests.test_dice import rolled_by_hand

LONG = 10 ** 30
DIE = (1, 2, 3)

# Words that lead nowhere, that come back to their own cells later, thick ones, those that go one way alone.
WORDS = ["E", "EW", "EN", "EEW", "EEWW", "ENWS", "ENWSE", "EEEWW", "NNNSSE", "ENENWS", "EEWNSW", "WWE", "EENWS",
         "ENWSENWS", "NEWS", "EEEENWWWSE", "SSSSSNNNN", "EEEEEEEEEEEWWWWWWWWWWWWN"]


def last_by_hand(cell, word, times):
    """The dict from cells to the last moments on them, step by step."""
    return {at: moment for moment, at in enumerate(cells_walked(Walk(cell, [(word, times)])))}


def left_by_hand(cell, word, times, die):
    """The dict from cells to the faces that they keep, step by step."""
    told = {}
    for at, letter in zip(cells_walked(Walk(cell, [(word, times)])), " " + word * times):
        die = rolled_by_hand(die, letter.strip())
        told[at] = 7 - die[0]
    return told


class RoundsTest(PlaneCase):
    def test_step_by_step(self):
        words = [word for many in (1, 2, 3, 4) for word in every_word(many)] + some_words(341, 120, 9) + WORDS
        for word in words:
            for times in (0, 1, 2, 3, 5, 9):
                last = set(last_by_hand((0, 0), word, times).values())
                many = len(word)
                found = rounds(word, times)
                self.same(len(found), many)
                told = {i * many + k for k, first in enumerate(found, 1) for i in range(first, times)}
                self.same(told, last - {0})
                for first in found:
                    self.assertTrue(0 <= first <= times)
                self.same(is_start_last(word, times), 0 in last)
                self.same(last_count(word, times), len(last))

    def test_examples(self):
        self.same(rounds("EEW", 5), [5, 4, 0])
        self.same(rounds(times=0, word="EEW"), [0, 0, 0])
        self.same((rounds("EW", 4), rounds("EW", 1), rounds("EW", 0)), ([3, 3], [0, 0], [0, 0]))
        self.same((rounds("E", 7), rounds("ENWS", GREAT)), ([0], [GREAT - 1] * 4))
        self.same((is_start_last("E", 5), is_start_last("EW", 1), is_start_last(times=0, word="EW")),
                  (True, False, True))
        # From (0, 0) this leads back there 2 rounds later, and not sooner.
        word = "W" * 5 + "E" * 7
        self.same([is_start_last(word, times) for times in (0, 1, 2, 3)], [True, False, False, False])
        word = "EEENWWWWWWWSEEEEE"
        self.same([is_start_last(word, times) for times in (0, 1, 2, 9)], [True, False, False, False])
        word = "NEEEEEEEESWWWW"
        self.same([is_start_last(word, times) for times in (0, 1, 2, 9)], [True, True, True, True])
        self.same(last_count(times=5, word="EEW"), 7)

    def test_starts_that_come_back_late(self):
        # By the first letters to where later rounds of the word lead back from, ahead of coming there on the way.
        for word, wanted in (("WNEES", [0, 1]), ("NWWSNEEES", [0, 1, 2]), ("SWWWNSEEEEN", [0, 1, 2, 3]), ("EWE", [0]),
                             ("SSWNNSSEN", [0, 1, 2, 3, 4, 5]), ("ENWSN", [0]), ("NEN", [0, 1, 2, 3, 4, 5])):
            for more in ("", "N", "EW"):
                told = [times for times in range(6) if is_start_last(word + more, times)]
                last = [last_by_hand((0, 0), word + more, times) for times in range(6)]
                self.same(told, [times for times in range(6) if last[times][0, 0] == 0])
                self.assertTrue(more or told == wanted, word)

    def test_as_many_as_cells(self):
        for word in WORDS + some_words(344, 40, 24):
            for times in (0, 1, 3, 40, LONG, GREAT):
                self.same(last_count(word, times), Trail((0, 0), word, times).many_cells())
                self.assertTrue(all(0 <= first <= times for first in rounds(word, times)))
        self.same(last_count("E", LONG), LONG + 1)
        self.same(last_count("EEW", LONG), LONG + 2)

    def test_wrong_arguments(self):
        for function in (rounds, is_start_last, last_count):
            self.refuses(function, {"word": "ENE", "times": 3})


class LeftTest(PlaneCase):
    def test_step_by_step(self):
        chance = random.Random(345)
        for word in WORDS + some_words(346, 30, 8):
            for times in (0, 1, 2, 6):
                cell, die = (chance.randrange(-5, 6), chance.randrange(-5, 6)), chance.choice(every_die())
                last, left = last_by_hand(cell, word, times), left_by_hand(cell, word, times, die)
                x, y = cell
                near = [(x + across, y + up) for across in range(-2, 9, 3) for up in range(-2, 3, 2)] + list(last)
                for goal in near:
                    self.same(last_moment(cell, word, times, goal), last.get(goal))
                    self.same(left_on(cell, word, times, goal, die), left.get(goal))
                    self.check_paper(cell, word, times, goal, die, last.get(goal), left.get(goal))
                wanted = {face: list(left.values()).count(face) for face in range(1, 7)}
                self.same(left_counts(cell, word, times, die), wanted)

    def check_paper(self, cell, word, times, goal, die, moment, face):
        """Check the paper of a goal."""
        paper = left_paper(cell, word, times, goal, die)
        if moment is None:
            self.same(paper, ("never",))
        else:
            self.same((paper[0], paper[3]), ("kept", face))
            i, k = paper[1:3]
            self.assertTrue((i, k) == (0, 0) or (0 <= i < times and 1 <= k <= len(word)))
            self.same(i * len(word) + k, moment)
        self.same(accepts_left(cell, word, times, goal, die, paper), True)

    def test_places(self):
        regions = some_regions(347, 6, (None,)) + [Region(), ~Region(), None]
        carpets = some_carpets(348, 8, (1, 2, 3)) + [None]
        kept = 0
        for index, (word, region) in enumerate(itertools.product(WORDS, regions)):
            carpet, times, cell = carpets[index % 9], (0, 1, 4, 9)[index % 4], (index % 7 - 3, index % 5 - 2)
            die = every_die()[5 * index % 48]
            place = (region, carpet, None if carpet is None else index % 2)
            left = [face for at, face in left_by_hand(cell, word, times, die).items()
                    if (region is None or at in region) and (carpet is None or carpet.colour(at) == place[2])]
            wanted = {face: left.count(face) for face in range(1, 7)}
            found = left_counts(cell, word, times, die, *place)
            self.same(found, wanted)
            self.same(list(found), [1, 2, 3, 4, 5, 6])
            face = index % 6 + 1
            self.same(left_count(cell, word, times, die, face, *place), wanted[face])
            kept += len(left)
        self.assertGreater(kept, 200)

    def test_example(self):
        self.same(left_counts((0, 0), "E", 4, DIE), {1: 1, 2: 0, 3: 1, 4: 1, 5: 0, 6: 2})

    def test_great_numbers(self):
        wanted = {1: LONG, 2: 0, 3: LONG, 4: LONG, 5: 0, 6: LONG + 1}
        self.same(left_counts((0, 0), "E", 4 * LONG, DIE), wanted)
        self.same(left_counts((0, 0), "E", 4 * LONG, DIE, Region([(1, LONG + 1, None, None)])),
                  {1: LONG // 4, 2: 0, 3: LONG // 4, 4: LONG // 4, 5: 0, 6: LONG // 4})
        self.same(left_count((0, 0), "E", 4 * LONG, DIE, 3, None, CHESS, 1), LONG)
        self.same(last_moment((0, 0), "EEW", LONG, (5, 0)), 15)
        self.same(last_moment((0, 0), "EEW", LONG, (LONG, 0)), 3 * LONG)
        self.same(last_moment((0, 0), "EEW", LONG, (LONG + 1, 0)), 3 * LONG - 1)
        self.same(last_moment((0, 0), "EEW", LONG, (LONG + 2, 0)), None)
        self.same(left_paper((0, 0), "EEW", LONG, (5, 0), DIE)[:3], ("kept", 4, 3))
        self.same(left_paper((0, 0), "EW", LONG, (1, 0), DIE), ("kept", LONG - 1, 1, 3))
        self.same(left_paper((0, 0), "EW", LONG, (0, 0), DIE), ("kept", LONG - 1, 2, 6))
        self.same(left_paper((0, 0), "E", LONG, (0, 0), DIE), ("kept", 0, 0, 6))
        self.same(left_paper((0, 0), "E", LONG, (0, 1), DIE), ("never",))
        # So many cells as the walk was on keep some face.
        for word in WORDS:
            found = left_counts((3, 3), word, LONG, (5, 3, 6))
            self.same(sum(found.values()), last_count(word, LONG))
            found = left_counts((3, 3), word, LONG, (5, 3, 6), None, SLANTED, 1)
            self.same(sum(found.values()), Trail((3, 3), word, LONG).cells_on(SLANTED, 1))
            box = Region([(-50, 10 ** 20, -50, 10 ** 20)])
            found = left_counts((3, 3), word, LONG, (5, 3, 6), box)
            self.same(sum(found.values()), Trail((3, 3), word, LONG).cells_in(box))

    def test_names(self):
        told = {"times": 4, "word": "E", "cell": (0, 0)}
        self.same(last_moment(goal=(2, 0), **told), 2)
        self.same(left_on(die=DIE, goal=(2, 0), **told), 1)
        self.same(left_paper(die=DIE, goal=(2, 0), **told), ("kept", 1, 1, 1))
        self.same(accepts_left(value=("kept", 1, 1, 1), die=DIE, goal=(2, 0), **told), True)
        place = {"colour": 0, "carpet": CHESS, "region": THREE}
        self.same(left_count(face=6, die=DIE, **place, **told), 1)
        self.same(left_counts(die=DIE, **place, **told), {1: 1, 2: 0, 3: 0, 4: 0, 5: 0, 6: 1})
        self.same(left_count((0, 0), "E", 4, DIE, 6, carpet=CHESS, colour=0), 2)

    def test_wrong_arguments(self):
        told = {"cell": (0, 0), "word": "EEW", "times": 3}
        kinds = {"goal": "cell", "region": "told region", "carpet": "told carpet"}
        for goal in ({**told, "goal": (1, 0)}, {**told, "goal": (GREAT, 5)}):
            self.refuses(last_moment, goal, kinds)
            self.refuses(left_on, {**goal, "die": DIE}, kinds)
            self.refuses(left_paper, {**goal, "die": DIE}, kinds)
            self.refuses(accepts_left, {**goal, "die": DIE, "value": None}, kinds)
        place = {"region": THREE, "carpet": CHESS, "colour": 0}
        for function, right in ((left_count, {**told, "die": DIE, "face": 6}), (left_counts, {**told, "die": DIE})):
            self.refuses(function, {**right, **place}, kinds)
            self.refuses(function, {**right, **place, "region": None}, kinds)
            self.refuses(function, right, kinds)
            self.refuses(function, {**right, "region": None, "carpet": None, "colour": None},
                         {**kinds, "colour": "no colour"})


class PapersTest(PlaneCase):
    def test_bent(self):
        for word, times, goal in (("EEW", 5, (1, 0)), ("EW", 3, (0, 0)), ("E", 4, (0, 0)), ("E", 4, (9, 9)),
                                  ("E", 0, (0, 0)), ("ENWS", 2, (1, 1))):
            paper = left_paper((0, 0), word, times, goal, DIE)
            for i, k, face in itertools.product(range(-1, 7), range(-1, 6), range(0, 8)):
                told = ("kept", i, k, face)
                self.same(accepts_left((0, 0), word, times, goal, DIE, told), told == paper)
            self.same(accepts_left((0, 0), word, times, goal, DIE, ("never",)), paper == ("never",))
            for bent in (list(paper), paper + (0,), paper[:-1], (paper,), ("never", 0), (Everything(),), ("kept",) * 4,
                         (Everything(),) + paper[1:], ("kept",) + (Everything(),) * 3, ("kept", 0, 0),
                         (paper[0].upper(),)):
                self.same(accepts_left((0, 0), word, times, goal, DIE, bent), False)
            for bent in NO_PAPERS + [Everything(), Touchy(), (Touchy(),), ("kept", 0, 0, Touchy())]:
                self.same(accepts_left((0, 0), word, times, goal, DIE, bent), False)
        self.same(left_paper((0, 0), "E", 0, (0, 0), (6, 2, 4)), ("kept", 0, 0, 1))
        self.same(accepts_left((0, 0), "E", 0, (0, 0), (6, 2, 4), ("kept", 0, 0, 1)), True)
        self.same(accepts_left((0, 0), "E", 0, (0, 0), (6, 2, 4), ("kept", 0, 0, True)), False)
        self.same(accepts_left((0, 0), "E", 0, (0, 0), (6, 2, 4), ("kept", False, 0, 1)), False)
        self.same(accepts_left((0, 0), "E", 0, (0, 0), (6, 2, 4), ("kept", 0, False, 1)), False)
