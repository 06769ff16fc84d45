"""Simple words, their insides, and the loops of closed words."""

from endlessplane.basics import in_order
from endlessplane.closed import enclosed
from endlessplane.cuts import cells_of, size_of
from endlessplane.errors import NotSo
from endlessplane.inside import hand_of, inside, is_closed_word, is_simple, loops, within
from endlessplane.regions import Region
from endlessplane.walks import Walk, shift_of
from endlessplane.windings import winding
from tests.helpers import GREAT, NO_PAIRS, PlaneCase, cells_walked, every_word, some_words

# Squares, a bar, a ring that is open, a cross, a stair: each goes round its inside once.
SIMPLE = ["ENWS", "NESW", "EENNWWSS", "SSSWWWNNNEEE", "EEENNNWWWSSS", "EEEENNNNWWWWSSSS", "EEEENWWWWS", "EEENNWSWNWSS",
          "ENENWNWSWSES", "ENENENWWWSSS", "EEENWWNEENWWWSSS"]
CLOSED_NOT_SIMPLE = ["EW", "NS", "ENSW", "ENWSENWS", "EEWW", "EENNSSWW", "ENWSWNES", "EENWSW", "EWEW", "ENENWSWS"]
NOT_CLOSED = ["E", "EN", "ENW", "ENWSE", "EENWS", "N" * 24, "EEW"]


def words_closed(most):
    """All closed words of up to so many letters."""
    return [word for many in range(2, most + 1, 2) for word in every_word(many) if shift_of(word) == (0, 0)]


def is_simple_by_hand(word):
    """Whether a word is simple, step by step."""
    corners = cells_walked(Walk((0, 0), [(word, 1)]))
    return corners[0] == corners[-1] and len(word) >= 4 and len(set(corners)) == len(word)


def windings_of(corner, word):
    """The dict from the cells with another winding than 0 to their windings, cell by cell."""
    walk = Walk(corner, [(word, 1)])
    x, y = corner
    near = [(x + across, y + up) for across in range(-7, 8) for up in range(-7, 8)]
    return {cell: winding(walk, cell) for cell in near if winding(walk, cell) != 0}


class WordsTest(PlaneCase):
    def test_closed_and_simple(self):
        simple = [word for word in words_closed(8) if is_simple_by_hand(word)]
        for word in words_closed(8):
            self.same(is_closed_word(word), True)
            self.same(is_simple(word), is_simple_by_hand(word))
        # A square from each corner either way, boxes of two cells, and those of three and four cells in a row or bent.
        self.same([len([word for word in simple if len(word) == many]) for many in (2, 4, 6, 8)], [0, 8, 24, 112])
        for word in some_words(301, 300, 24) + NOT_CLOSED:
            self.same(is_closed_word(word), shift_of(word) == (0, 0))
            self.same(is_simple(word), is_simple_by_hand(word))
        self.same([is_simple(word) for word in CLOSED_NOT_SIMPLE], [False] * len(CLOSED_NOT_SIMPLE))
        self.same([is_closed_word(word) for word in NOT_CLOSED], [False] * len(NOT_CLOSED))
        self.same((is_closed_word(word="EW"), is_simple(word="EW")), (True, False))

    def test_great_words(self):
        for word, wanted in (("E" * 6 + "N" * 6 + "W" * 6 + "S" * 6, 36), ("E" * 11 + "N" + "W" * 11 + "S", 11)):
            self.same((is_simple(word), hand_of(word), size_of(inside((0, 0), word))), (True, 1, wanted))

    def test_wrong_arguments(self):
        for function in (is_closed_word, is_simple, hand_of, loops):
            self.refuses(function, {"word": "ENWS"})
        for function in (inside, within):
            self.refuses(function, {"corner": (0, 0), "word": "ENWS"})
        for word in NOT_CLOSED:
            for function in (hand_of, loops):
                self.bears(NotSo, "word", "closed", function, word)
                self.bears(NotSo, "word", "closed", function, word=word)
            for function in (inside, within):
                self.bears(NotSo, "word", "closed", function, (0, 0), word)
        for word in CLOSED_NOT_SIMPLE:
            self.bears(NotSo, "word", "simple", hand_of, word)
            for function in (inside, within):
                self.bears(NotSo, "word", "simple", function, (0, 0), word)
                self.bears(NotSo, "word", "simple", function, word=word, corner=(GREAT, -GREAT))
        for function in (inside, within):
            for value in NO_PAIRS:
                for word in ("EW", "E", "x"):
                    with self.assertRaises(ValueError) as caught:
                        function(value, word)
                    self.same(caught.exception.part, "corner")


class InsideTest(PlaneCase):
    def words(self):
        """Simple words of both hands."""
        simple = [word for word in words_closed(8) if is_simple_by_hand(word)][::5]
        return SIMPLE + simple

    def test_by_windings(self):
        hands = []
        for word in self.words():
            for corner in ((0, 0), (3, -5)):
                told = windings_of(corner, word)
                hand = hand_of(word)
                hands.append(hand)
                self.assertEqual(set(told.values()), {hand})
                self.same(list(cells_of(inside(corner, word))), in_order(list(told)))
                walk = Walk(corner, [(word, 1)])
                self.same(len(told), abs(enclosed(walk)))
                corners = cells_walked(walk)
                wanted = [(x, y) for x, y in in_order(list(told)) if (x, y) not in corners
                          and all(cell in told for cell in ((x - 1, y), (x, y - 1), (x - 1, y - 1)))]
                self.same(within(corner, word), wanted)
                self.same(len(wanted), len(told) - len(word) // 2 + 1)
        self.assertEqual({1, -1}, set(hands))

    def test_examples(self):
        self.same(inside((0, 0), "ENWS"), Region([(0, 1, 0, 1)]))
        self.same(inside(word="NESW", corner=(5, 7)), Region([(5, 6, 7, 8)]))
        self.same((hand_of("ENWS"), hand_of(word="NESW"), within((0, 0), "ENWS")), (1, -1, []))
        self.same(within(word="EENNWWSS", corner=(0, 0)), [(1, 1)])
        self.same(within((0, 0), "EEENNNWWWSSS"), [(1, 1), (2, 1), (1, 2), (2, 2)])
        self.same(within((0, 0), "NNNEEESSSWWW"), [(1, 1), (2, 1), (1, 2), (2, 2)])

    def test_far(self):
        corner = (GREAT, -GREAT)
        self.same(inside(corner, "EENNWWSS"), Region([(GREAT, GREAT + 2, -GREAT, 2 - GREAT)]))
        self.same(within(corner, "EENNWWSS"), [(GREAT + 1, 1 - GREAT)])


class LoopsTest(PlaneCase):
    def by_hand(self, word):
        """The loops, looked for anew from the beginning of what is left."""
        found, left = [], word
        while left:
            corners = cells_walked(Walk((0, 0), [(left, 1)]))
            last = min(index for index in range(1, len(corners)) if corners[index] in corners[:index])
            first = corners.index(corners[last])
            found.append((corners[first], left[first:last]))
            left = left[:first] + left[last:]
        return found

    def test_by_hand(self):
        words = words_closed(6) + [word for word in some_words(302, 6000, 24) if shift_of(word) == (0, 0)]
        self.assertGreater(len(words), 500)
        for word in words:
            found = loops(word)
            self.same(found, self.by_hand(word))
            self.same(sum(len(loop) for _, loop in found), len(word))
            for _, loop in found:
                self.assertTrue(is_simple(loop) or loop in ("EW", "WE", "NS", "SN"))

    def test_sums(self):
        for word in [word for word in some_words(303, 2000, 20) if shift_of(word) == (0, 0)][:40] + SIMPLE[:3]:
            whole, parts = Walk((0, 0), [(word, 1)]), [Walk(corner, [(told, 1)]) for corner, told in loops(word)]
            self.same(enclosed(whole), sum(enclosed(part) for part in parts))
            for cell in [(x, y) for x in range(-4, 4) for y in range(-4, 4)]:
                self.same(winding(whole, cell), sum(winding(part, cell) for part in parts))

    def test_examples(self):
        self.same(loops("ENWSWE"), [((0, 0), "ENWS"), ((0, 0), "WE")])
        self.same(loops(word="EW"), [((0, 0), "EW")])
        self.same(loops("EEWW"), [((1, 0), "EW"), ((0, 0), "EW")])
        self.same(loops("ENWS"), [((0, 0), "ENWS")])
        self.same(loops("EENWSW"), [((1, 0), "ENWS"), ((0, 0), "EW")])
        self.same(loops("NENWSS"), [((0, 1), "ENWS"), ((0, 0), "NS")])
