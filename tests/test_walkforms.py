"""Whether walks are the same, and walks told otherwise."""

import random
import unittest

from endlessplane.errors import BadNumber
from endlessplane.nthstands import nth_stand
from endlessplane.regions import Region
from endlessplane.stands import lets_rows, rows_of_stands, stands, visits
from endlessplane.walkforms import (
    are_same, cut, is_tidy, moved_to, parting_moment, tidied, told_again, turned_back, walk_joined,
)
from endlessplane.walks import Walk, root_of
from tests.helpers import CHESS, GREAT, NO_NUMBERS, PlaneCase, cells_walked, moments_in, some_walks

LONG = 10 ** 30
ALL = ~Region()
WALK = Walk((0, 0), [("EN", LONG), ("W", 3)])
WALKS = some_walks(161, 30) + some_walks(162, 10, 4, 2, 5) + [Walk((0, 0)), Walk((0, 0), [("EE", 0), ("E", 0)])]
WALK_KINDS = {"one": "walk", "other": "walk"}
BACK = {"E": "W", "N": "S", "W": "E", "S": "N"}


def parting_by_hand(one, other):
    """The parting moment, step by step."""
    cells, others = cells_walked(one), cells_walked(other)
    for moment in range(max(len(cells), len(others))):
        if cells[moment:moment + 1] != others[moment:moment + 1]:
            return moment
    return None


def is_tidy_by_hand(walk):
    """Whether a walk is tidy, part by part."""
    words = [word for word, _ in walk.parts]
    roots = all(root_of(word) == (word, 1) for word in words)
    return roots and all(times > 0 for _, times in walk.parts) and all(one != two for one, two in zip(words, words[1:]))


def told_otherwise(seed, text, cell):
    """A walk of the steps of a text, cut into parts by chance."""
    chance = random.Random(seed)
    parts = []
    while text:
        word = text[:chance.randrange(1, 7)]
        most = 1
        while text.startswith(word * (most + 1)):
            most += 1
        times = chance.randrange(1, most + 1)
        parts.append((word, times))
        text = text[len(word) * times:]
        if chance.randrange(4) == 0:
            parts.append((chance.choice(["E", "NN", "SWS"]), 0))
    walk = Walk(cell)
    for part in parts:
        walk = walk_joined(walk, Walk((5, 5), [part]))
    return walk


class SameTest(PlaneCase):
    def parts(self, one, other, moment):
        self.same(parting_moment(one, other), moment)
        self.same(parting_moment(other=one, one=other), moment)
        self.assertIs(are_same(one, other), moment is None)
        self.assertIs(are_same(other=one, one=other), moment is None)

    def test_example(self):
        self.parts(WALK, Walk((0, 0), [("ENEN", LONG)]), 2 * LONG + 1)

    def test_step_by_step(self):
        walks = some_walks(163, 40, 3, 3, 4)
        words = ("E", "EE", "EN", "ENE", "EENE", "EENEE")
        walks += [Walk((0, 0), [(word, times)]) for word in words for times in range(5)]
        for one in walks:
            for other in walks:
                self.parts(one, other, parting_by_hand(one, other))

    def test_told_otherwise(self):
        for seed, walk in enumerate(WALKS):
            text = "".join(word * times for word, times in walk.parts)
            other = told_otherwise(seed, text, walk.cell)
            self.parts(walk, other, None)
            self.parts(walk, moved_to(other, (9, 9)), 0)
            self.parts(walk_joined(other, Walk((0, 0), [("S", 2)])), walk, len(text) + 1)
            if text:
                at = random.Random(seed).randrange(len(text))
                bent = text[:at] + BACK[text[at]] + text[at + 1:]
                self.parts(told_otherwise(seed + 100, bent, walk.cell), other, at + 1)

    def test_edges(self):
        self.parts(Walk((0, 0)), Walk((0, 0), [("E", 0)]), None)
        self.parts(Walk((0, 0)), Walk((0, 1)), 0)
        self.parts(Walk((0, 0)), Walk((0, 0), [("E", 1)]), 1)
        self.parts(Walk((0, 0), [("E", 5)]), Walk((0, 0), [("N", 5)]), 1)
        self.parts(Walk((0, 0), [("E", 5)]), Walk((0, 0), [("E", 4)]), 5)
        self.parts(Walk((0, 0), [("EEN", 9)]), Walk((0, 0), [("EENE", 9)]), 6)
        # These two words agree for 5 + 8 - 2 steps, the most that words of such lengths can.
        self.parts(Walk((0, 0), [("ENEEN", 9)]), Walk((0, 0), [("ENEENENE", 9)]), 12)

    def test_great_numbers(self):
        self.parts(Walk((0, 0), [("EN", 6 * LONG)]), Walk((0, 0), [("ENEN", LONG), ("ENENENEN", LONG)]), None)
        self.parts(Walk((0, 0), [("EN", LONG)]), Walk((0, 0), [("E", 1), ("NE", LONG - 1), ("N", 1)]), None)
        self.parts(Walk((0, 0), [("EN", LONG)]), Walk((0, 0), [("E", 1), ("NE", LONG)]), 2 * LONG + 1)
        self.parts(Walk((0, 0), [("EN", LONG)]), Walk((0, 0), [("E", 1), ("NE", LONG - 1), ("NE", 1)]), 2 * LONG + 1)
        self.parts(Walk((0, 0), [("EN", LONG)]), Walk((0, 0), [("EN", LONG - 1), ("E", 2)]), 2 * LONG)
        self.parts(Walk((0, 0), [("EEN", LONG), ("E", 5)]), Walk((0, 0), [("EEN", LONG), ("EE", 7)]), 3 * LONG + 6)
        self.parts(Walk((0, 0), [("E" * 23, 24 * LONG)]), Walk((0, 0), [("E" * 24, 23 * LONG)]), None)
        self.parts(Walk((0, 0), [("E" * 23, 24 * LONG)]), Walk((0, 0), [("E" * 23 + "N", 23 * LONG)]), 24)
        self.parts(WALK, WALK, None)

    def test_wrong_arguments(self):
        for function in (are_same, parting_moment, walk_joined):
            self.refuses(function, {"one": WALK, "other": WALK}, WALK_KINDS)


class TidyTest(PlaneCase):
    def test_tidied(self):
        untidy = 0
        for seed, walk in enumerate(WALKS):
            text = "".join(word * times for word, times in walk.parts)
            for told in (walk, told_otherwise(seed, text, walk.cell)):
                tidy = tidied(walk=told)
                self.assertIs(are_same(tidy, walk), True)
                self.assertTrue(is_tidy_by_hand(tidy))
                self.assertIs(is_tidy(walk=tidy), True)
                self.assertIs(is_tidy(told), is_tidy_by_hand(told))
                untidy += not is_tidy(told)
        self.assertGreater(untidy, 20)

    def test_edges(self):
        for parts in ([("E", 0)], [("EE", 1)], [("E", 1), ("E", 2)], [("E", 2), ("N", 0), ("E", 1)], [("ENEN", LONG)],
                      [("E", 2), ("EE", 1)]):
            walk = Walk((1, 2), parts)
            self.assertIs(is_tidy(walk), False)
            self.assertIs(is_tidy(tidied(walk)), True)
            self.assertIs(are_same(tidied(walk), walk), True)
        for parts in ([], [("E", 1)], [("EN", LONG), ("NE", LONG)], [("E", 1), ("N", 1), ("E", 1)]):
            walk = Walk((1, 2), parts)
            self.assertIs(is_tidy(walk), True)
            self.assertEqual(tidied(walk), walk)
        self.same(tidied(Walk((0, 0), [("E", LONG), ("EEE", LONG), ("N", 0), ("EE", 1)])).parts, (("E", 4 * LONG + 2),))

    def test_wrong_arguments(self):
        for function in (tidied, is_tidy, turned_back):
            self.refuses(function, {"walk": WALK})


class MadeTest(PlaneCase):
    def test_cut(self):
        for walk in WALKS[::2]:
            cells = cells_walked(walk)
            for first in range(len(cells)):
                for last in range(first, len(cells), 2):
                    self.same(cells_walked(cut(walk, first, last)), cells[first:last + 1])
        part = cut(last=7, first=2, walk=WALK)
        self.same(cells_walked(part), [(1, 1), (2, 1), (2, 2), (3, 2), (3, 3), (4, 3)])

    def test_cut_far(self):
        end = 2 * LONG
        for first, last in ((0, end + 3), (5, end + 1), (LONG + 1, end), (end, end), (1, LONG)):
            part = cut(WALK, first, last)
            self.same(part.end(), last - first)
            self.same(part.goal(), WALK.at(last))
            for moment in (0, 1, 2, 3, (last - first) // 2, last - first):
                if moment <= last - first:
                    self.same(part.at(moment), WALK.at(first + moment))
        self.assertIs(are_same(cut(WALK, 0, WALK.end()), WALK), True)
        first, last = cut(WALK, 0, LONG + 1), cut(WALK, LONG + 1, WALK.end())
        self.assertIs(are_same(walk_joined(first, last), WALK), True)

    def test_cut_wrong_moments(self):
        for value in NO_NUMBERS + [2 * LONG + 4]:
            self.bears(BadNumber, "number", value, cut, WALK, value, None)
            self.bears(BadNumber, "number", value, cut, WALK, 0, value)
            self.bears(BadNumber, "number", value, cut, last=value, first=3, walk=WALK)
        self.bears(BadNumber, "number", 4, cut, WALK, 5, 4)
        self.bears(BadNumber, "number", 1, cut, Walk((0, 0)), 0, 1)
        self.refuses(cut, {"walk": WALK, "first": 0, "last": 0})

    def test_turned_back(self):
        for walk in WALKS:
            back = turned_back(walk=walk)
            self.same(cells_walked(back), cells_walked(walk)[::-1])
            self.assertEqual(turned_back(back), walk)
            wanted = tuple(("".join(BACK[letter] for letter in word[::-1]), times) for word, times in walk.parts[::-1])
            self.same(back.parts, wanted)
        self.same(turned_back(WALK).parts, (("E", 3), ("SW", LONG)))
        self.same(turned_back(WALK).at(LONG + 3), (LONG // 2, LONG // 2))

    def test_joined(self):
        for one, other in zip(WALKS, WALKS[3:]):
            both = walk_joined(other=other, one=one)
            x, y = one.goal()[0] - other.cell[0], one.goal()[1] - other.cell[1]
            self.same(cells_walked(both), cells_walked(one) + [(a + x, b + y) for a, b in cells_walked(other)[1:]])
            self.same(both.parts, one.parts + other.parts)
            self.same(both.cell, one.cell)

    def test_told_again(self):
        for walk in WALKS[::3]:
            for times in (0, 1, 2, 7, 20):
                again = told_again(times=times, walk=walk)
                self.same(again.parts, walk.parts * times)
                self.same(again.cell, walk.cell)
                self.same(again.end(), walk.end() * times)
        self.same(told_again(WALK, 20).goal(), (20 * (LONG - 3), 20 * LONG))
        self.assertEqual(told_again(WALK, 0), Walk((0, 0)))
        for value in NO_NUMBERS + [21, GREAT]:
            self.bears(BadNumber, "number", value, told_again, WALK, value)
            self.bears(BadNumber, "number", value, told_again, times=value, walk=WALK)
        self.refuses(told_again, {"walk": WALK, "times": 2})

    def test_moved(self):
        for walk in WALKS:
            moved = moved_to(cell=(7, -GREAT), walk=walk)
            self.assertEqual(moved, Walk((7, -GREAT), walk.parts))
        self.refuses(moved_to, {"walk": WALK, "cell": (0, 0)})

    def test_walks_of_many_parts(self):
        walk = Walk((0, 0), [("EN", 2), ("SSW", 1), ("W", 0), ("N", 3), ("ES", 2), ("NWW", 1)])
        long = told_again(walk, 20)
        self.same(len(long.parts), 120)
        cells = cells_walked(long)
        self.same([long.at(moment) for moment in range(len(cells))], cells)
        self.same(len(long.begins()), 120)
        box = Region([(-3, 1, None, 20)])
        moments = [at for at, cell in enumerate(cells) if cell in box and CHESS.colour(cell) == 1]
        self.same(stands(long, box, CHESS, 1), len(moments))
        self.same(moments_in(rows_of_stands(long, box, CHESS, 1)), moments)
        self.assertIs(lets_rows(long, box, CHESS, 1, rows_of_stands(long, box, CHESS, 1)), True)
        self.same([nth_stand(long, box, CHESS, 1, n) for n in range(len(moments) + 1)], moments + [None])
        self.same(visits(long, (1, 1)), cells.count((1, 1)))
        again = told_again(long, 2)
        self.same(len(walk_joined(again, long).parts), 360)
        self.assertIs(are_same(walk_joined(again, moved_to(long, (8, 8))), told_again(long, 3)), True)
        self.assertEqual(turned_back(turned_back(again)), again)
        self.same(len(tidied(again).parts), 200)
        self.same(cells_walked(cut(again, 100, 300)), cells_walked(again)[100:301])


if __name__ == "__main__":
    unittest.main()
