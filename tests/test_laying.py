"""Carpets recoloured, laid by tables, and one over another."""

import unittest

from endlessplane.carpets import Carpet, plain
from endlessplane.errors import BadIndex, BadPart, TooMany
from endlessplane.laying import (
    hidden, laid, laid_over, pairs_met, recoloured, recolouring, showings, shown_at, shown_carpet, together,
)
from endlessplane.periods import Lattice
from tests.helpers import (
    CELLS, CHESS, COLUMNS, GREAT, NO_CARPETS, NO_INTEGERS, NO_PAIRS, Everything, PlaneCase, some_carpets,
)

SAME = list(range(10))
UNLIKE = [[int(one != other) for other in range(10)] for one in range(10)]

# Wide carpets, of which two with unlike widths have a great lattice together.
TWELVE = Carpet(12, 0, 1, ["000000000001"])
TALL = Carpet(1, 0, 12, ["0"] * 11 + ["1"])
TALLER = Carpet(1, 0, 13, ["0"] * 12 + ["1"])
WIDE = [Carpet(wide, 0, 1, ["0" * (wide - 1) + "1"]) for wide in (5, 7, 11, 13, 17, 19)]

NO_ROWS = [None, True, 1, "0123456789", b"0123456789", {}, [], [0] * 9, [0] * 11, (), object()]
NO_COLOUR_ROWS = [[0] * 9 + [value] for value in NO_INTEGERS + [-1, 10, GREAT]]


def is_least(carpet):
    """Whether a carpet is told by its normal form."""
    return (carpet.a, carpet.b, carpet.d, carpet.rows) == carpet.normal()


def shown_by_hand(carpets, clear, cell):
    """The index of the shown carpet."""
    indexes = [index for index, carpet in enumerate(carpets) if carpet.colour(cell) not in clear]
    return indexes[-1] if indexes else 0


def rows_by_chance():
    """Rows of carpets by chance, that can be laid, each with clear colours."""
    found = []
    carpets = some_carpets(31, 120, [1, 2, 3, 4], "00122")
    for index, carpet in enumerate(carpets):
        row = carpets[index:index + 1 + index % 6]
        if together(row).area() <= 144:
            found.append((row, ([], [0], [2, 0], [1], [5, 9], SAME, [2])[index % 7]))
    return found


class RecolouredTest(PlaneCase):
    def test_each_cell(self):
        maps = [SAME, SAME[::-1], [3] * 10, tuple(SAME), {}, {0: 1}, {1: 0, 0: 1}, {5: 6, 7: 7}, {0: 9, 1: 9, 2: 9},
                [1, 0, 0] + [4] * 7, {colour: 9 - colour for colour in SAME}]
        for carpet in some_carpets(32, 12, [1, 2, 3, 4], "012") + [CHESS, plain(7)]:
            for colours in maps:
                other = recoloured(carpet, colours)
                led = colours.get if isinstance(colours, dict) else lambda colour, _: colours[colour]
                self.assertTrue(is_least(other))
                for cell in CELLS:
                    self.same(other.colour(cell), led(carpet.colour(cell), carpet.colour(cell)))
        self.same(recoloured(colours={0: 5}, carpet=CHESS).normal(), (2, 1, 1, ("51",)))

    def test_normal_form(self):
        self.same(recoloured(Carpet(4, 0, 2, ["0123", "2301"]), [0, 1, 0, 1] + [0] * 6).normal(), (2, 0, 1, ("01",)))
        self.same(recoloured(Carpet(4, 0, 2, ["0101", "1010"]), {}).normal(), (2, 1, 1, ("01",)))
        self.same(recoloured(Carpet(12, 5, 12, ["012345678901"] * 12), {1: 0}).normal()[0], 12)
        self.assertEqual(recoloured(TWELVE, [0] * 10), plain(0))

    def test_nothing_is_changed(self):
        colours, led = list(SAME), {0: 3}
        recoloured(CHESS, colours)
        recoloured(CHESS, led)
        self.assertEqual((colours, led), (SAME, {0: 3}))

    def test_wrong_arguments(self):
        for value in NO_CARPETS:
            self.bears(BadPart, "part", "carpet", recoloured, value, None)
            self.bears(BadPart, "part", "carpet", recoloured, colours=SAME, carpet=value)
        no_dicts = [{value: 0} for value in (None, True, False, "0", (0,), -1, 10, GREAT)]
        no_dicts += [{0: value} for value in NO_INTEGERS + [-1, 10]] + [{0: 1, 3: 10}, {0: 1, "": 0}]
        for value in NO_ROWS + NO_COLOUR_ROWS + no_dicts + [Everything(), [Everything()] * 10, {0: Everything()}]:
            if value != {}:
                self.bears(BadPart, "part", "colours", recoloured, CHESS, value)
                self.bears(BadPart, "part", "colours", recoloured, colours=value, carpet=CHESS)


class LaidTest(PlaneCase):
    def test_example(self):
        self.same(laid(CHESS, COLUMNS, UNLIKE).normal(), (1, 0, 2, ("0", "1")))
        self.same(laid(table=UNLIKE, other=COLUMNS, one=CHESS).normal(), (1, 0, 2, ("0", "1")))

    def test_each_cell(self):
        table = [[(3 * one + other) % 7 for other in range(10)] for one in range(10)]
        carpets = some_carpets(33, 8, [1, 2, 3], "012") + [CHESS, COLUMNS, plain(9)]
        for one in carpets:
            for other in carpets:
                both = laid(one, other, tuple(tuple(row) for row in table))
                self.assertTrue(is_least(both))
                self.assertIs(together([one, other]) <= both.least(), True)
                for cell in CELLS[::3]:
                    self.same(both.colour(cell), table[one.colour(cell)][other.colour(cell)])

    def test_great_numbers(self):
        both = laid(CHESS, Carpet(3, 1, 2, ["012", "210"]), UNLIKE)
        for x in range(GREAT, GREAT + 12):
            for y in range(-GREAT, 12 - GREAT):
                wanted = int(CHESS.colour((x, y)) != Carpet(3, 1, 2, ["012", "210"]).colour((x, y)))
                self.same(both.colour((x, y)), wanted)

    def test_area(self):
        # 12 times 12 is 144.
        self.same(laid(TWELVE, TALL, UNLIKE).least().area(), 144)
        self.bears(TooMany, "limit", 144, laid, TWELVE, TALLER, UNLIKE)
        self.bears(TooMany, "limit", 144, laid, TALLER, TWELVE, [[0] * 10] * 10)
        # What counts are the least lattices, not the told ones.
        self.same(laid(Carpet(144, 0, 1, ["01" * 72]), Carpet(1, 0, 143, ["4"] * 143), UNLIKE), plain(1))

    def test_wrong_arguments(self):
        for value in NO_CARPETS:
            self.bears(BadPart, "part", "carpet", laid, value, value, None)
            self.bears(BadPart, "part", "carpet", laid, CHESS, value, None)
            self.bears(BadPart, "part", "carpet", laid, table=UNLIKE, one=value, other=CHESS)
        for value in NO_ROWS + [SAME] + [[SAME] * 9 + [row] for row in NO_ROWS + NO_COLOUR_ROWS]:
            self.bears(BadPart, "part", "table", laid, CHESS, COLUMNS, value)
            self.bears(BadPart, "part", "table", laid, table=value, other=TALLER, one=TWELVE)


class TogetherTest(PlaneCase):
    def lattice(self, carpets, a, b, d):
        self.assertEqual(together(carpets), Lattice(a, b, d))
        self.assertEqual(together(carpets=tuple(carpets)), Lattice(a, b, d))

    def test_lattices(self):
        self.lattice([CHESS], 2, 1, 1)
        self.lattice([CHESS, COLUMNS], 2, 0, 2)
        self.lattice([CHESS] * 6, 2, 1, 1)
        self.lattice([Carpet(4, 0, 2, ["0101", "1010"])], 2, 1, 1)
        self.lattice([TWELVE, TALLER, CHESS], 12, 0, 26)
        self.lattice(WIDE, 5 * 7 * 11 * 13 * 17 * 19, 0, 1)
        self.lattice([plain(1), plain(2), TALL], 1, 0, 12)

    def test_shifts(self):
        for row, _ in rows_by_chance()[:40]:
            lattice = together(row)
            for x in range(-12, 13):
                for y in range(-12, 13):
                    self.assertIs((x, y) in lattice, all(carpet.is_period((x, y)) for carpet in row))

    def test_wrong_arguments(self):
        rows = {
            together: (), laid_over: ([0],), showings: ([0],), hidden: ([0],), shown_at: ([0], (0, 0)),
            shown_carpet: ([0], 0),
        }
        for function, rest in rows.items():
            for value in (None, True, 5, "", {}, {0: CHESS}, CHESS, [], (), [CHESS] * 7, [None] * 7, object()):
                self.bears(BadPart, "part", "carpets", function, value, *rest)
                self.bears(BadPart, "part", "carpets", function, value, *[None for _ in rest])
            for value in NO_CARPETS:
                self.bears(BadIndex, "index", 0, function, [value, value], *rest)
                self.bears(BadIndex, "index", 5, function, (CHESS, CHESS, CHESS, CHESS, CHESS, value), *rest)
                self.bears(BadIndex, "index", 1, function, [TWELVE, value, TALLER, None], *[None for _ in rest])


class PairsMetTest(PlaneCase):
    def test_example(self):
        met = pairs_met(CHESS, COLUMNS)
        self.same(met, {(0, 0): 1, (0, 1): 1, (1, 0): 1, (1, 1): 1})
        self.assertEqual(list(met), [(0, 0), (0, 1), (1, 0), (1, 1)])
        self.assertIsNone(recolouring(CHESS, COLUMNS))

    def test_each_place(self):
        carpets = some_carpets(34, 14, [1, 2, 3, 4], "0123") + [CHESS, COLUMNS, plain(9), plain(0)]
        for one in carpets:
            for other in carpets:
                lattice = together([one, other])
                if lattice.area() > 144:
                    continue
                pairs = [(one.colour(place), other.colour(place)) for place in lattice.places()]
                met = pairs_met(other=other, one=one)
                self.assertEqual(list(met.items()), [(pair, pairs.count(pair)) for pair in sorted(set(pairs))])
                self.tells(one, other, sorted(set(pairs)))

    def tells(self, one, other, pairs):
        found = recolouring(other=other, one=one)
        if len(pairs) > len(dict(pairs)):
            self.assertIsNone(found)
        else:
            self.assertEqual(list(found.items()), pairs)
            self.assertEqual(recoloured(one, found), other)

    def test_recolouring(self):
        four = Carpet(4, 0, 1, ["9305"])
        self.assertEqual(list(recolouring(four, COLUMNS).items()), [(0, 0), (3, 1), (5, 1), (9, 0)])
        self.assertIsNone(recolouring(COLUMNS, four))
        self.same(recolouring(plain(3), plain(3)), {3: 3})
        self.same(recolouring(four, plain(7)), {0: 7, 3: 7, 5: 7, 9: 7})
        # The last colours alone meet two others.
        self.assertIsNone(recolouring(Carpet(4, 0, 1, ["0199"]), Carpet(4, 0, 1, ["0198"])))

    def test_every_returned_dict_is_new(self):
        pairs_met(CHESS, CHESS).clear()
        recolouring(CHESS, CHESS).clear()
        self.same(pairs_met(CHESS, CHESS), {(0, 0): 1, (1, 1): 1})
        self.same(recolouring(CHESS, CHESS), {0: 0, 1: 1})

    def test_wrong_arguments(self):
        for function in (pairs_met, recolouring):
            for value in NO_CARPETS:
                self.bears(BadPart, "part", "carpet", function, value, None)
                self.bears(BadPart, "part", "carpet", function, CHESS, value)
                self.bears(BadPart, "part", "carpet", function, other=CHESS, one=value)
            self.bears(TooMany, "limit", 144, function, TWELVE, TALLER)
            self.bears(TooMany, "limit", 144, function, *WIDE[4:])
        self.same(sum(pairs_met(TWELVE, TALL).values()), 144)
        self.same(recolouring(Carpet(12, 0, 12, ["012345678911"] * 11 + ["012345678901"]), plain(2)),
                  {colour: 2 for colour in range(10)})


class LaidOverTest(PlaneCase):
    def test_example(self):
        over = laid_over([CHESS, COLUMNS], [0])
        self.assertEqual([over.colour(cell) for cell in ((0, 0), (1, 0), (0, 1), (1, 1))], [0, 1, 1, 1])
        self.same(showings([CHESS, COLUMNS], [0]), [2, 2])
        self.same(showings(clear=(0,), carpets=(CHESS, COLUMNS)), [2, 2])
        self.same(shown_at([CHESS, COLUMNS], [0], (0, 0)), 0)
        self.same(shown_at(cell=(1, 0), clear=[0], carpets=[CHESS, COLUMNS]), 1)

    def test_each_cell(self):
        for row, clear in rows_by_chance():
            over = laid_over(row, clear)
            self.assertTrue(is_least(over))
            for cell in CELLS[::7]:
                index = shown_by_hand(row, clear, cell)
                self.same(shown_at(row, clear, cell), index)
                self.same(over.colour(cell), row[index].colour(cell))
            many = [0] * len(row)
            for place in together(row).places():
                many[shown_by_hand(row, clear, place)] += 1
            self.same(showings(row, clear), many)
            self.same(hidden(row, clear), [index for index, number in enumerate(many) if number == 0])

    def test_shown_carpets(self):
        for row, clear in rows_by_chance()[::2]:
            for index in range(len(row)):
                shown = shown_carpet(row, clear, index)
                self.assertTrue(is_least(shown))
                for cell in CELLS[::11]:
                    self.same(shown.colour(cell), int(shown_by_hand(row, clear, cell) == index))
        self.same(shown_carpet(index=1, clear=[0], carpets=[CHESS, COLUMNS]).normal(), (2, 0, 1, ("01",)))

    def test_step_by_step(self):
        for row, clear in rows_by_chance():
            over = row[0]
            for carpet in row[1:]:
                over = laid_over([over, carpet], clear)
            self.assertEqual(over, laid_over(row, clear))

    def test_hidden_ones_left_out(self):
        some_hidden = 0
        for row, clear in rows_by_chance():
            left_out = hidden(row, clear)
            some_hidden += len(left_out)
            kept = [carpet for index, carpet in enumerate(row) if index not in left_out]
            self.assertEqual(laid_over(kept, clear), laid_over(row, clear))
        self.assertGreater(some_hidden, 20)
        self.same(hidden(clear=[0], carpets=[CHESS, plain(0), plain(3), plain(0)]), [0, 1, 3])
        self.same(hidden([CHESS, CHESS], [1, 0]), [1])

    def test_rows_of_one_and_of_six(self):
        self.same(laid_over([Carpet(4, 0, 1, ["0101"])], [0, 1]).normal(), (2, 0, 1, ("01",)))
        self.same(showings([Carpet(4, 0, 1, ["0101"])], []), [2])
        self.same(hidden([CHESS], SAME), [])
        six = [plain(9)] + [Carpet(6, 0, 1, ["0" * at + str(at) + "0" * (5 - at)]) for at in range(1, 6)]
        self.same(laid_over(carpets=six, clear=[0]).normal(), (6, 0, 1, ("912345",)))
        self.same(laid_over(six, []).normal(), (6, 0, 1, ("000005",)))
        self.same(showings(six, [0]), [1] * 6)
        self.same(showings(six, []), [0, 0, 0, 0, 0, 6])
        self.same(showings(six, [0, 5]), [2, 1, 1, 1, 1, 0])

    def test_no_clear_colours(self):
        for clear in ([], ()):
            self.same(laid_over([CHESS, COLUMNS], clear).normal(), COLUMNS.normal())
            self.same(shown_at([CHESS, COLUMNS], clear, (0, 0)), 1)
            self.same(shown_carpet([CHESS, COLUMNS], clear, 0).normal(), (1, 0, 1, ("0",)))
            self.same(shown_carpet([CHESS, COLUMNS], clear, 1).normal(), (1, 0, 1, ("1",)))

    def test_too_many(self):
        for clear in ([], [0], SAME):
            for function in (laid_over, showings, hidden):
                self.bears(TooMany, "limit", 144, function, [TWELVE, TALLER], clear)
                self.bears(TooMany, "limit", 144, function, WIDE, clear)
            self.bears(TooMany, "limit", 144, shown_carpet, [TWELVE, TALLER], clear, 1)
            self.same(sum(showings([TWELVE, TALL], clear)), 144)
        self.same(shown_at([TWELVE, TALLER], [0], (11, 12)), 1)
        self.same(shown_at([TWELVE, TALLER], [0], (11, 11)), 0)
        self.same(shown_at(WIDE, [0], (5 * 7 * 11 * GREAT - 1, -GREAT)), 2)

    def test_wrong_clear_colours(self):
        values = [None, True, 0, "", "0", {}, {0: 0}, [0, 0], (1, 2, 1), SAME + [0], object(), Everything()]
        values += [[3, value] for value in NO_INTEGERS + [-1, 10, Everything()]]
        for value in values:
            for function in (laid_over, showings, hidden):
                self.bears(BadPart, "part", "clear", function, [TWELVE, TALLER], value)
                self.bears(BadPart, "part", "clear", function, clear=value, carpets=[CHESS])
            self.bears(BadPart, "part", "clear", shown_at, [CHESS], value, None)
            self.bears(BadPart, "part", "clear", shown_carpet, [TWELVE, TALLER], value, None)

    def test_wrong_cells_and_indexes(self):
        for value in NO_PAIRS:
            self.bears(BadPart, "part", "cell", shown_at, [CHESS], [], value)
            self.bears(BadPart, "part", "cell", shown_at, [TWELVE, TALLER], [0], value)
        for value in NO_INTEGERS + [-1, -2, 2, 5, GREAT]:
            self.bears(BadIndex, "index", value, shown_carpet, [CHESS, COLUMNS], [], value)
            self.bears(BadIndex, "index", value, shown_carpet, [TWELVE, TALLER], [], value)

    def test_nothing_is_changed(self):
        row, clear = [CHESS, COLUMNS], [1, 0]
        for function in (laid_over, showings, hidden):
            function(row, clear)
        shown_carpet(row, clear, 0)
        self.assertEqual((row, clear), ([CHESS, COLUMNS], [1, 0]))


if __name__ == "__main__":
    unittest.main()
