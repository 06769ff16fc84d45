"""Likeness of carpets, and the motions that show it."""

import itertools

from endlessplane.carpets import Carpet, plain
from endlessplane.likeness import are_like, least_form, motion_between, motions_between, own_motions, shows_like
from endlessplane.motions import TURNS, Motion, moved_carpet
from tests.helpers import (
    CHESS, COLUMNS, GREAT, NO_MOTIONS, SLANTED, SPARSE, Everything, PlaneCase, Touchy, some_carpets,
)

# No turn but the one that stays leads it to itself: a crooked figure, wide apart.
CROOKED = Carpet(4, 0, 4, ["1200", "1000", "0000", "0000"])
ARROW = Carpet(5, 0, 4, ["01000", "11000", "01000", "00000"])
CARPETS = some_carpets(371, 25, (1, 2, 3), "012") + some_carpets(372, 12, (2, 3, 4)) + [
    CHESS, COLUMNS, plain(0), plain(3), CROOKED, ARROW, Carpet(4, 2, 1, ["0123"]), Carpet(3, 1, 1, ["012"]),
]


def moved_forms(carpet):
    """The dict from all normal forms to which motions lead a carpet, to the motions, shifts from one block on all."""
    found = {}
    for turn in TURNS:
        turned = moved_carpet(Motion(turn), carpet)
        for sy, sx in itertools.product(range(turned.normal()[2]), range(turned.normal()[0])):
            found.setdefault(turned.moved_by((sx, sy)).normal(), []).append((turn, (sx, sy)))
    return found


class LikenessTest(PlaneCase):
    def test_least_forms(self):
        for carpet in CARPETS:
            wanted = min(moved_forms(carpet))
            found = least_form(carpet)
            self.same((found.a, found.b, found.d, found.rows), wanted)
            self.same(found.normal(), wanted)
        self.same(least_form(carpet=Carpet(2, 1, 1, ["10"])).rows, ("01",))
        self.same(least_form(COLUMNS).normal(), (1, 0, 2, ("0", "1")))

    def test_motions_between(self):
        numbers = {}
        for index, (one, other) in enumerate(itertools.product(CARPETS, repeat=2)):
            if index % 7 > 0 and index % (len(CARPETS) + 1) > 0:
                continue
            wanted = moved_forms(one).get(other.normal(), [])
            found = motions_between(one, other)
            self.same([(motion.turn, motion.shift) for motion in found], wanted)
            self.same(are_like(one, other), wanted != [])
            self.same(are_like(one, other), least_form(one) == least_form(other))
            self.same(motion_between(one, other), found[0] if found else None)
            for motion in found:
                self.same(moved_carpet(motion, one), other)
            numbers[len(found)] = numbers.get(len(found), 0) + 1
        self.assertEqual(set(numbers), {0, 1, 2, 4, 8})

    def test_moved_ones(self):
        for index, carpet in enumerate(CARPETS):
            motion = Motion(TURNS[index % 8], (index, -3 * index))
            moved = moved_carpet(motion, carpet)
            found = motions_between(carpet, moved)
            a, _, d, _ = moved.normal()
            for between in found:
                self.assertTrue(0 <= between.shift[0] < a and 0 <= between.shift[1] < d)
            self.assertIn(motion.turn, [between.turn for between in found])
            self.same(len(found), len(own_motions(carpet)))
            self.same(len(found), len(own_motions(moved)))
            self.same(least_form(moved), least_form(carpet))
            self.same(least_form(moved).rows, least_form(carpet).rows)

    def test_own_motions(self):
        for carpet in CARPETS:
            own = own_motions(carpet)
            self.same(own[0], Motion("stay"))
            self.assertIn(len(own), (1, 2, 4, 8))
            turns = [TURNS.index(motion.turn) for motion in own]
            self.same(turns, sorted(set(turns)))
            self.same(own, motions_between(carpet, carpet))
        self.same(own_motions(carpet=CROOKED), [Motion("stay")])
        self.same([motion.turn for motion in own_motions(ARROW)], ["stay", "flip"])
        self.same([len(own_motions(carpet)) for carpet in (plain(5), CHESS, COLUMNS)], [8, 8, 4])

    def test_example(self):
        other = Carpet(2, 1, 1, ["10"])
        found = motions_between(CHESS, other)
        self.same([motion.turn for motion in found], list(TURNS))
        for motion in found:
            self.assertTrue(motion.shift in ((0, 0), (1, 0)))
            self.same(shows_like(CHESS, other, motion), True)
        self.same(motion_between(CHESS, other), Motion("stay", (1, 0)))

    def test_by_a_shift_alone_and_by_none(self):
        moved = CROOKED.moved_by((3, 2))
        self.same(motions_between(one=CROOKED, other=moved), [Motion("stay", (3, 2))])
        self.same(motion_between(other=moved, one=CROOKED), Motion("stay", (3, 2)))
        for turn in TURNS:
            turned = moved_carpet(Motion(turn, (GREAT, 1)), CROOKED)
            self.same([motion.turn for motion in motions_between(CROOKED, turned)], [turn])
        self.same(motions_between(CROOKED, ARROW), [])
        self.same(motion_between(CROOKED, CHESS), None)
        self.same(are_like(other=CHESS, one=COLUMNS), False)
        self.same(are_like(COLUMNS, Carpet(1, 0, 2, ["1", "0"])), True)
        self.same(are_like(Carpet(2, 0, 1, ["02"]), COLUMNS), False)
        # As wide and as high, with the same shares, but in another order.
        self.same(are_like(Carpet(4, 0, 1, ["0012"]), Carpet(4, 0, 1, ["0102"])), False)

    def test_great_ones(self):
        for carpet in (SLANTED, SPARSE, Carpet(12, 0, 12, ["0" * 11 + "1"] + ["0" * 12] * 10 + ["2" + "0" * 11])):
            for turn in ("left", "flip", "cross"):
                moved = moved_carpet(Motion(turn, (GREAT, -GREAT + 5)), carpet)
                self.same(are_like(carpet, moved), True)
                self.same(least_form(carpet).rows, least_form(moved).rows)
                for motion in motions_between(carpet, moved):
                    self.same(moved_carpet(motion, carpet), moved)


class ShowsLikeTest(PlaneCase):
    def test_shifts(self):
        for index, carpet in enumerate(CARPETS):
            moved = moved_carpet(Motion(TURNS[index % 8], (2, 1)), carpet)
            for motion in motions_between(carpet, moved):
                for sx, sy in itertools.product(range(-5, 6, 2), range(-4, 5)):
                    told = Motion(motion.turn, (sx, sy))
                    apart = (sx - motion.shift[0], sy - motion.shift[1])
                    self.same(shows_like(carpet, moved, told), moved.is_period(apart))
        self.same(shows_like(motion=Motion("stay", (2 * GREAT, 0)), other=CHESS, one=CHESS), True)
        self.same(shows_like(CHESS, CHESS, Motion("left", (2 * GREAT + 1, 0))), False)
        self.same(shows_like(CHESS, COLUMNS, Motion("stay")), False)

    def test_other_values(self):
        for value in NO_MOTIONS + [Everything(), Touchy(), TURNS]:
            self.same(shows_like(CHESS, CHESS, value), False)

    def test_wrong_arguments(self):
        kinds = {"one": "carpet", "other": "carpet"}
        for function in (least_form, own_motions):
            self.refuses(function, {"carpet": CHESS})
        for function in (are_like, motions_between, motion_between):
            self.refuses(function, {"one": CHESS, "other": COLUMNS}, kinds)
        for motion in (Motion("stay"), None, "stay"):
            self.refuses(shows_like, {"one": CHESS, "other": COLUMNS, "motion": motion}, {**kinds, "motion": "any"})
