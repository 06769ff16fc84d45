"""Cells that part carpets, and papers."""

import unittest

from endlessplane.carpets import Carpet, plain
from endlessplane.errors import BadPart
from endlessplane.parting import (
    breaking_cell, least_paper, likeness_paper, parting_cell, shows_alike, shows_least, shows_parted,
)
from endlessplane.periods import Lattice, common_lattice
from tests.helpers import CHESS, GREAT, NO_CARPETS, NO_PAIRS, NO_PAPERS, Everything, PlaneCase, some_carpets

CHESS_IN_FOUR = Carpet(4, 0, 2, ["0101", "1010"])
OTHER_CHESS = Carpet(2, 1, 1, ["10"])


def block_of(one, other):
    """The A and the D of point 16."""
    common = common_lattice(one.lattice(), other.lattice())
    divisor = [k for k in range(1, common.a + 1) if common.a % k == 0 and common.b % k == 0][-1]
    return common.a, common.d * common.a // divisor


def parting_by_hand(one, other):
    """The least parting cell, found cell by cell."""
    wide, high = block_of(one, other)
    for y in range(high):
        for x in range(wide):
            if one.colour((x, y)) != other.colour((x, y)):
                return (x, y)
    return None


class PartingTest(PlaneCase):
    def test_parting_cell(self):
        carpets = some_carpets(21, 30, [1, 2, 3, 4]) + [plain(0), plain(1), CHESS, CHESS_IN_FOUR, OTHER_CHESS]
        for one in carpets:
            for other in carpets:
                cell = parting_cell(one, other)
                self.same(cell, parting_by_hand(one, other))
                self.assertIs(cell is None, one == other)
        self.same(parting_cell(other=plain(1), one=CHESS), (0, 0))
        self.assertIsNone(parting_cell(CHESS, CHESS_IN_FOUR))

    def test_parting_late(self):
        self.same(parting_cell(Carpet(143, 0, 1, ["0" * 142 + "1"]), Carpet(144, 5, 1, ["0" * 143 + "1"])), (142, 0))
        one, other = Carpet(1, 0, 143, ["0"] * 142 + ["1"]), Carpet(1, 0, 144, ["0"] * 143 + ["1"])
        self.same(parting_cell(one, other), (0, 142))
        one = Carpet(12, 0, 12, ["0" * 12] * 11 + ["0" * 11 + "1"])
        other = Carpet(12, 7, 12, ["0" * 12] * 11 + ["0" * 11 + "1"])
        self.same(parting_cell(one, plain(0)), (11, 11))
        self.same(parting_cell(one, other), (6, 23))
        self.same(parting_cell(one, Carpet(12, 0, 12, ["0" * 12] * 11 + ["0" * 11 + "2"])), (11, 11))

    def test_words_of_periods(self):
        # The longest agreement of two words with these periods: 5 + 8 - 2 signs.
        one, other = Carpet(5, 0, 1, ["01010"]), Carpet(8, 0, 1, ["01010010"])
        self.same(parting_cell(one, other), parting_by_hand(one, other))
        one, other = Carpet(8, 0, 1, ["01001010"]), Carpet(5, 0, 1, ["01001"])
        self.same(parting_cell(one, other), (11, 0))
        one, other = Carpet(1, 0, 8, list("01001010")), Carpet(1, 0, 5, list("01001"))
        self.same(parting_cell(one, other), (0, 11))

    def test_breaking_cell(self):
        for carpet in some_carpets(22, 20, [1, 2, 3, 4, 6]) + [CHESS_IN_FOUR]:
            for sy in range(-4, 5, 2):
                for sx in range(-5, 6):
                    broken = [(x, y) for y in range(carpet.d) for x in range(carpet.a)
                              if carpet.colour((x, y)) != carpet.colour((x + sx, y + sy))]
                    self.same(breaking_cell(carpet, (sx, sy)), broken[0] if broken else None)
        self.same(breaking_cell(shift=(1, 2 * GREAT), carpet=CHESS), (0, 0))
        self.assertIsNone(breaking_cell(CHESS, (GREAT, GREAT)))
        self.same(breaking_cell(Carpet(144, 0, 1, ["0" * 143 + "1"]), (GREAT * 144 + 1, -GREAT)), (142, 0))

    def test_wrong_arguments(self):
        for value in NO_CARPETS:
            for function in (parting_cell, likeness_paper):
                self.bears(BadPart, "part", "carpet", function, value, CHESS)
                self.bears(BadPart, "part", "carpet", function, CHESS, value)
                self.bears(BadPart, "part", "carpet", function, other=value, one=CHESS)
            for function in (shows_alike, shows_parted):
                self.bears(BadPart, "part", "carpet", function, value, CHESS, ("parted", (0, 0)))
                self.bears(BadPart, "part", "carpet", function, CHESS, value, None)
            self.bears(BadPart, "part", "carpet", breaking_cell, value, None)
            self.bears(BadPart, "part", "carpet", least_paper, value)
            self.bears(BadPart, "part", "carpet", shows_least, value, None, None)
        for value in NO_PAIRS:
            self.bears(BadPart, "part", "shift", breaking_cell, CHESS, value)
        for value in (None, True, (2, 1, 1), [2, 1, 1], CHESS):
            self.bears(BadPart, "part", "lattice", shows_least, CHESS, value, None)


class LikenessPaperTest(PlaneCase):
    def test_papers_of_the_library(self):
        carpets = some_carpets(23, 14, [1, 2, 3]) + [plain(0), plain(5), CHESS, CHESS_IN_FOUR, OTHER_CHESS]
        for one in carpets:
            for other in carpets:
                paper = likeness_paper(one, other)
                if one == other:
                    self.same(paper, ("alike",) + one.normal())
                else:
                    self.same(paper, ("parted", parting_cell(one, other)))
                self.assertIs(shows_alike(one, other, paper), one == other)
                self.assertIs(shows_parted(one, other, paper), one != other)
        self.same(likeness_paper(other=CHESS_IN_FOUR, one=CHESS), ("alike", 2, 1, 1, ("01",)))

    def test_alike_told_otherwise(self):
        for value in (("alike", 2, 1, 1, ("01",)), ("alike", 4, 0, 2, ("0101", "1010")),
                      ("alike", 144, 3, 1, ("01" * 72,)), ("alike", 6, 3, 3, ("010101", "101010", "010101"))):
            self.assertIs(shows_alike(CHESS, CHESS_IN_FOUR, value), True)
            self.assertIs(shows_alike(value=value, other=CHESS_IN_FOUR, one=CHESS), True)
            self.assertIs(shows_alike(CHESS, OTHER_CHESS, value), False)
            self.assertIs(shows_alike(OTHER_CHESS, CHESS, value), False)
            self.assertIs(shows_alike(OTHER_CHESS, OTHER_CHESS, value), False)

    def test_alike_bent(self):
        for value in NO_PAPERS + [
                ["alike", 2, 1, 1, ("01",)], ("alike", 2, 1, 1, ["01"]), ("alike", 2, 1, 1, "01"),
                ("alike", 2, 1, 1), ("alike", 2, 1, 1, ("01",), 0), ("Alike", 2, 1, 1, ("01",)),
                ("parted", 2, 1, 1, ("01",)), (b"alike", 2, 1, 1, ("01",)), (None, 2, 1, 1, ("01",)),
                ("alike", 2, True, 1, ("01",)), ("alike", 2, 1, True, ("01",)), ("alike", 2, 0, 1, ("01",)),
                ("alike", 2, 1, 1, ("10",)), ("alike", 2, 1, 1, ("01", "10")), ("alike", 2, 1, 2, ("01",)),
                ("alike", 2, 3, 1, ("01",)), ("alike", 2, -1, 1, ("01",)), ("alike", 0, 0, 1, ("",)),
                ("alike", 2, 1, 1, ("0",)), ("alike", 2, 1, 1, (b"01",)), ("alike", 2, 1, 1, (None,)),
                ("alike", 2, 1, 1, (("0", "1"),)), ("alike", "2", 1, 1, ("01",)), ("alike", 2, 1, 1, {0: "01"}),
                ("alike", 146, 1, 1, ("01" * 73,)), ("alike", 2, 0, 74, ("01", "10") * 37),
                ("alike", (2, 1, 1, ("01",))), ("parted", (0, 0)), ("alike", 2, 1, 0, ()),
                ("alike", 2, 1, None, ("01",)), Everything(), (Everything(), 2, 1, 1, ("01",)),
                ("alike", 2, 1, 1, Everything()), ("alike", 2, 1, 1, (Everything(),)),
                ("alike", Everything(), 1, 1, ("01",)), ("alike", 2, Everything(), 1, ("01",))]:
            self.assertIs(shows_alike(CHESS, CHESS_IN_FOUR, value), False)
        self.assertIs(shows_alike(plain(1), plain(1), ("alike", True, 0, 1, ("1",))), False)
        self.assertIs(shows_alike(plain(1), plain(1), ("alike", 1, False, 1, ("1",))), False)
        self.assertIs(shows_alike(plain(1), plain(1), ("alike", 1, 0, 1, ("1",))), True)

    def test_parted_at_any_cell(self):
        columns = Carpet(2, 0, 1, ["01"])
        for x in range(-4, 5):
            for y in range(-4, 5):
                parted = columns.colour((x, y)) != CHESS.colour((x, y))
                self.assertIs(shows_parted(columns, CHESS, ("parted", (x, y))), parted)
                self.assertIs(shows_parted(value=("parted", (x, y)), other=CHESS, one=columns), parted)
                self.assertIs(shows_parted(CHESS, CHESS_IN_FOUR, ("parted", (x, y))), False)
        self.assertIs(shows_parted(CHESS, OTHER_CHESS, ("parted", (GREAT, -GREAT))), True)

    def test_parted_bent(self):
        for value in NO_PAPERS + [
                ["parted", (0, 0)], ("parted", [0, 0]), ("parted", 0, 0), ("parted", (0, 0), 0), ("Parted", (0, 0)),
                ("alike", (0, 0)), (b"parted", (0, 0)), (None, (0, 0)), ("parted", (0,)), ("parted", (0, 0, 0)),
                ("parted", (True, 0)), ("parted", (0, False)), ("parted", (0, None)), ("parted", "00"),
                ("parted", None), ("alike", 2, 1, 1, ("01",)), Everything(), (Everything(), (0, 0)),
                ("parted", Everything()), ("parted", (Everything(), 0))]:
            self.assertIs(shows_parted(CHESS, OTHER_CHESS, value), False)


class LeastPaperTest(PlaneCase):
    def test_papers_of_the_library(self):
        for carpet in some_carpets(24, 30, [1, 2, 3, 4, 6]) + [plain(4), CHESS, CHESS_IN_FOUR]:
            paper = least_paper(carpet)
            least = carpet.least()
            cells = {place: breaking_cell(carpet, place) for place in least.places() if place != (0, 0)}
            self.same(paper, ("least", cells))
            self.assertIs(shows_least(carpet, least, paper), True)
            self.assertIs(shows_least(value=paper, lattice=least, carpet=carpet), True)
            self.assertIs(shows_least(carpet.in_normal(), least, paper), True)
            if carpet.lattice() != least:
                self.assertIs(shows_least(carpet, carpet.lattice(), paper), False)
        self.same(least_paper(carpet=CHESS_IN_FOUR), ("least", {(1, 0): (0, 0)}))
        self.same(least_paper(plain(3)), ("least", {}))

    def test_every_returned_dict_is_new(self):
        least_paper(CHESS)[1].clear()
        self.same(least_paper(CHESS), ("least", {(1, 0): (0, 0)}))

    def test_great_areas(self):
        for carpet in (Carpet(12, 5, 12, ["0" * 12] * 11 + ["0" * 11 + "1"]), Carpet(144, 89, 1, ["0" * 143 + "1"])):
            word, cells = least_paper(carpet)
            self.assertEqual(len(cells), 143)
            self.assertIs(shows_least(carpet, carpet.least(), (word, cells)), True)

    def test_told_otherwise(self):
        for cell in ((0, 0), (5, 8), (-1, 0), (GREAT, GREAT + 1)):
            self.assertIs(shows_least(CHESS, Lattice(2, 1, 1), ("least", {(1, 0): cell})), True)
        columns = Carpet(3, 0, 1, ["001"])
        self.assertIs(shows_least(columns, Lattice(3, 0, 1), ("least", {(2, 0): (0, 9), (1, 0): (1, -7)})), True)
        self.assertIs(shows_least(columns, Lattice(3, 0, 1), ("least", {(1, 0): (0, 0), (2, 0): (0, 0)})), False)

    def test_bent(self):
        columns = Carpet(3, 0, 1, ["001"])
        right = {(1, 0): (1, 0), (2, 0): (0, 0)}
        self.assertIs(shows_least(columns, Lattice(3, 0, 1), ("least", right)), True)
        for value in NO_PAPERS + [
                ["least", right], ("least", right, 0), ("Least", right), (b"least", right), (None, right), right,
                ("least", list(right.items())), ("least", tuple(right.items())), ("least", {}), ("least", None),
                ("least", {(1, 0): (1, 0)}), ("least", {**right, (0, 0): (0, 0)}), ("least", {**right, (3, 0): (0, 0)}),
                ("least", {**right, (0, 1): (0, 0)}), ("least", {(1, 0): (1, 0), (5, 0): (0, 0)}),
                ("least", {(1, 0): (1, 0), (-1, 0): (0, 0)}), ("least", {(1, 0): (1, 0), (2, 1): (0, 0)}),
                ("least", {(1, 0): (1, 0), (0, 0): (0, 0)}), ("least", {(True, 0): (1, 0), (2, 0): (0, 0)}),
                ("least", {(1, False): (1, 0), (2, 0): (0, 0)}), ("least", {1: (1, 0), 2: (0, 0)}),
                ("least", {"10": (1, 0), "20": (0, 0)}), ("least", {(1, 0): [1, 0], (2, 0): (0, 0)}),
                ("least", {(1, 0): (True, 0), (2, 0): (0, 0)}), ("least", {(1, 0): (1, False), (2, 0): (0, 0)}),
                ("least", {(1, 0): None, (2, 0): (0, 0)}), ("least", {(1, 0): (0, 0), (2, 0): (0, 0)}),
                ("least", {(1, 0): (1, 0), (2, 0): (1, 0)}), ("least", {(1, 0, 0): (1, 0), (2, 0): (0, 0)}),
                Everything(), (Everything(), right), ("least", Everything()),
                ("least", {(1, 0): Everything(), (2, 0): (0, 0)})]:
            self.assertIs(shows_least(columns, Lattice(3, 0, 1), value), False)

    def test_other_lattices(self):
        right = ("least", {(1, 0): (0, 0)})
        for lattice in (Lattice(2, 0, 1), Lattice(1, 0, 2), Lattice(1, 0, 1), Lattice(4, 1, 1), Lattice(2, 0, 2),
                        Lattice(GREAT, 1, 1), Lattice(2 * GREAT, 1, GREAT + 1), Lattice(146, 1, 1)):
            self.assertIs(shows_least(CHESS, lattice, right), False)
            self.assertIs(shows_least(CHESS, lattice, ("least", {})), False)
        self.assertIs(shows_least(CHESS, Lattice(1, 0, 1), ("least", {})), False)
        self.assertIs(shows_least(plain(0), Lattice(1, 0, 1), ("least", {})), True)
        self.assertIs(shows_least(plain(0), Lattice(2, 0, 1), ("least", {})), False)
        self.assertIs(shows_least(plain(0), Lattice(2, 0, 1), ("least", {(1, 0): (0, 0)})), False)
        # All places but one are told rightly; the shift of the missing one is a period.
        four = Lattice(4, 1, 1)
        self.assertIs(shows_least(CHESS, four, ("least", {(1, 0): (0, 0), (3, 0): (0, 0)})), False)
        self.assertIs(shows_least(CHESS, four, ("least", {(1, 0): (0, 0), (2, 0): (0, 0), (3, 0): (0, 0)})), False)

    def test_nothing_is_changed(self):
        right = {(1, 0): (0, 0)}
        shows_least(CHESS, Lattice(2, 1, 1), ("least", right))
        self.assertEqual(right, {(1, 0): (0, 0)})


if __name__ == "__main__":
    unittest.main()
