"""Words and walks."""

import unittest

from endlessplane.errors import BadIndex, BadNumber, BadPart, TooMany
from endlessplane.walks import Walk, offsets_of, root_of, shift_of
from tests.helpers import (
    GREAT, NO_INTEGERS, NO_NUMBERS, NO_PAIRS, NO_WORDS, Everything, PlaneCase, cells_walked, some_walks, some_words,
)

LONG = 10 ** 30
WALK = Walk((0, 0), [("EN", LONG), ("W", 3)])
WORDS = some_words(131, 60, 8) + some_words(132, 20, 24) + ["E", "N", "W", "S", "E" * 24, "ENWS" * 6]
WALKS = some_walks(133, 40) + [Walk((0, 0)), Walk((3, -4), [("E", 0)] * 6)]


class WordsTest(PlaneCase):
    def test_offsets(self):
        for word in WORDS:
            x, y, cells = 0, 0, [(0, 0)]
            for letter in word:
                step = {"E": (1, 0), "N": (0, 1), "W": (-1, 0), "S": (0, -1)}[letter]
                x, y = x + step[0], y + step[1]
                cells.append((x, y))
            self.same(offsets_of(word=word), tuple(cells))
            self.same(shift_of(word=word), (x, y))
        self.same(offsets_of("EENW"), ((0, 0), (1, 0), (2, 0), (2, 1), (1, 1)))
        self.same(shift_of("S"), (0, -1))

    def test_roots(self):
        for word in WORDS:
            roots = [word[:many] for many in range(1, len(word) + 1) if word[:many] * (len(word) // many) == word]
            self.same(root_of(word=word), (roots[0], len(word) // len(roots[0])))
        thick = [("E", 24), ("EN", 12), ("EEN", 8), ("ENWS", 6), ("EENEEW", 4), ("EENEENE", 3), ("EN" * 5 + "ES", 2)]
        for root, times in thick + [("E", 1), ("EN" * 11 + "E", 1), ("EN" * 11 + "ES", 1)]:
            self.same(root_of(root * times), (root, times))

    def test_wrong_words(self):
        for function in (shift_of, offsets_of, root_of):
            for value in NO_WORDS + [Everything()]:
                self.bears(BadPart, "part", "word", function, value)
                self.bears(BadPart, "part", "word", function, word=value)


class WalkTest(PlaneCase):
    def test_example(self):
        self.same((WALK.end(), WALK.at(2 * LONG), WALK.part_at(5)), (2 * LONG + 3, (LONG, LONG), (0, 2, 1)))
        self.same(WALK.goal(), (LONG - 3, LONG))

    def test_step_by_step(self):
        for walk in WALKS:
            cells = cells_walked(walk)
            self.same(walk.end(), len(cells) - 1)
            self.same(walk.goal(), cells[-1])
            self.same([walk.at(moment=moment) for moment in range(len(cells))], cells)
            for moment in (len(cells), len(cells) + 1, GREAT):
                self.assertIsNone(walk.at(moment))
                self.assertIsNone(walk.part_at(moment))

    def test_parts(self):
        for walk in WALKS:
            told, begins, moment, cells = [], [], 0, cells_walked(walk)
            for index, (word, times) in enumerate(walk.parts):
                begins.append((moment, cells[moment]))
                told += [(index, turn, step) for turn in range(times) for step in range(1, len(word) + 1)]
                moment += len(word) * times
            self.same(walk.begins(), begins)
            self.assertIsNone(walk.part_at(0))
            self.same([walk.part_at(moment=at) for at in range(1, walk.end() + 1)], told)

    def test_steps(self):
        for walk in WALKS:
            text = "".join(word * times for word, times in walk.parts)
            for first in range(walk.end() + 1):
                for last in range(first, walk.end() + 1, 3):
                    self.same(walk.steps(first, last), text[first:last])
        self.same(WALK.steps(last=2 * LONG + 2, first=2 * LONG - 3), "NENWW")
        self.same(WALK.steps(7, 407), "NE" * 200)
        self.same(WALK.steps(0, 400), "EN" * 200)
        self.same(WALK.steps(2 * LONG + 3, 2 * LONG + 3), "")
        self.same(Walk((0, 0)).steps(0, 0), "")

    def test_too_many_steps(self):
        for first, last in ((0, 401), (7, 408), (0, 2 * LONG), (2 * LONG - 398, 2 * LONG + 3)):
            self.bears(TooMany, "limit", 400, WALK.steps, first, last)
            self.bears(TooMany, "limit", 400, WALK.steps, last=last, first=first)

    def test_wrong_moments(self):
        for value in NO_NUMBERS:
            for method in (WALK.at, WALK.part_at):
                self.bears(BadNumber, "number", value, method, value)
                self.bears(BadNumber, "number", value, method, moment=value)
        for value in NO_NUMBERS + [2 * LONG + 4]:
            self.bears(BadNumber, "number", value, WALK.steps, value, None)
            self.bears(BadNumber, "number", value, WALK.steps, 0, value)
            self.bears(BadNumber, "number", value, WALK.steps, last=value, first=3)
            self.bears(BadNumber, "number", value, WALK.steps, value, GREAT)
        self.bears(BadNumber, "number", 4, WALK.steps, 5, 4)
        self.bears(BadNumber, "number", 0, WALK.steps, 2 * LONG, 0)
        self.bears(BadNumber, "number", 1, Walk((0, 0)).steps, 0, 1)
        self.bears(BadNumber, "number", 1, Walk((0, 0)).steps, 1, 1)

    def test_great_numbers(self):
        walk = Walk((-GREAT, GREAT), [("EEN", LONG), ("S", 0), ("WN", 2 * LONG), ("S", LONG)])
        self.same(walk.begins(), [(0, (-GREAT, GREAT)), (3 * LONG, (2 * LONG - GREAT, GREAT + LONG)),
                                  (3 * LONG, (2 * LONG - GREAT, GREAT + LONG)), (7 * LONG, (-GREAT, GREAT + 3 * LONG))])
        self.same((walk.end(), walk.goal()), (8 * LONG, (-GREAT, GREAT + 2 * LONG)))
        self.same(walk.at(3 * LONG // 2 + 1), (LONG - GREAT + 1, GREAT + LONG // 2))
        self.same(walk.part_at(3 * LONG), (0, LONG - 1, 3))
        self.same(walk.part_at(3 * LONG + 1), (2, 0, 1))
        self.same(walk.part_at(8 * LONG), (3, LONG - 1, 1))

    def test_attributes(self):
        parts = [("EN", 2), ("E", 0)]
        walk = Walk(parts=parts, cell=(1, 2))
        self.same((walk.cell, walk.parts), ((1, 2), (("EN", 2), ("E", 0))))
        parts.clear()
        walk.begins().clear()
        self.same((walk.parts, walk.begins()), ((("EN", 2), ("E", 0)), [(0, (1, 2)), (4, (3, 4))]))
        self.same(Walk((1, 2)).parts, ())
        self.same(Walk((1, 2), ()).begins(), [])
        self.same(len(Walk((0, 0), [("E", 1)] * 6).parts), 6)

    def test_equal_if_told_alike(self):
        walk = Walk((1, 2), [("EN", 2)])
        self.assertIs(walk == Walk((1, 2), (("EN", 2),)), True)
        for other in (Walk((2, 1), [("EN", 2)]), Walk((1, 2), [("ENEN", 1)]), Walk((1, 2)), Walk((1, 2), [("EN", 3)]),
                      Walk((1, 2), [("EN", 2), ("E", 0)]), Walk((1, 2), [("NE", 2)])):
            self.assertIs(walk == other, False)
            self.assertIs(walk != other, True)
        self.unlike_all(walk)
        self.no_iteration(walk)

    def test_wrong_arguments(self):
        for value in NO_PAIRS:
            self.bears(BadPart, "part", "cell", Walk, value)
            self.bears(BadPart, "part", "cell", Walk, parts=None, cell=value)
        for value in (None, True, 5, "", "EN", {}, {0: ("E", 1)}, [("E", 1)] * 7, [None] * 7, walk_parts(), object()):
            self.bears(BadPart, "part", "parts", Walk, (0, 0), value)
            self.bears(BadPart, "part", "parts", Walk, parts=value, cell=(0, 0))
        wrong = [None, "E", ["E", 1], ("E",), ("E", 1, 1), (1, "E"), (), Everything()]
        wrong += [(value, 1) for value in NO_WORDS] + [("E", value) for value in NO_INTEGERS + [-1, -GREAT]]
        for value in wrong:
            self.bears(BadIndex, "index", 0, Walk, (0, 0), [value, value])
            self.bears(BadIndex, "index", 5, Walk, (0, 0), tuple([("E", 1)] * 5 + [value]))
            self.bears(BadIndex, "index", 1, Walk, parts=[("E", 0), value, None], cell=(0, 0))


def walk_parts():
    """A generator of parts, which is no list."""
    yield ("E", 1)


if __name__ == "__main__":
    unittest.main()
