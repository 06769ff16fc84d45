"""Closed walks: how far they reach, what they enclose."""

import unittest

from endlessplane.closed import backwards, enclosed, is_closed, reach
from endlessplane.errors import NotSo
from endlessplane.walkforms import moved_to, told_again, turned_back, walk_joined
from endlessplane.walks import Walk, shift_of
from tests.helpers import GREAT, PlaneCase, cells_walked, some_walks

LONG = 10 ** 30
AROUND = Walk((0, 0), [("E", 3), ("N", 2), ("W", 3), ("S", 2)])
OPEN = [Walk((0, 0), [("E", 1)]), Walk((0, 0), [("E", LONG), ("W", LONG - 1)]), Walk((2, 1), [("N", GREAT)])]


def closed_walks():
    """Closed walks: those by chance, led back; twice round; backwards; without steps."""
    found = [AROUND, Walk((5, -6)), Walk((0, 0), [("ENWS", 3)]), Walk((0, 0), [("NESW", 2), ("EENNWWSS", 3)]),
             Walk((3, 3), [("EW", 4), ("ENWS", 0)]), Walk((0, 0), [("ENESWWWNES", 2)])]
    for walk in some_walks(191, 30, 4, 5, 4):
        x, y = walk.goal()[0] - walk.cell[0], walk.goal()[1] - walk.cell[1]
        ways = [("W" if x > 0 else "E", abs(x)), ("S" if y > 0 else "N", abs(y))]
        found.append(Walk(walk.cell, list(walk.parts) + ways))
        found.append(walk_joined(walk, Walk((0, 0), ways[::-1])))
    for walk in found[6:20:4]:
        found += [told_again(walk, 2), turned_back(walk), walk_joined(walk, AROUND)]
    return found


CLOSED = closed_walks()


def enclosed_by_hand(walk):
    """The sum of the x of the steps N, less that of the steps S, step by step."""
    cells = cells_walked(walk)
    return sum(x * (other_y - y) for (x, y), (_, other_y) in zip(cells, cells[1:]))


class ClosedTest(PlaneCase):
    def test_is_closed(self):
        for walk in CLOSED:
            self.assertIs(is_closed(walk=walk), True)
        for walk in OPEN:
            self.assertIs(is_closed(walk), False)
        for walk in some_walks(192, 40):
            self.assertIs(is_closed(walk), cells_walked(walk)[0] == cells_walked(walk)[-1])
        self.assertIs(is_closed(Walk((0, 0), [("E", LONG), ("N", LONG), ("SW", LONG)])), True)

    def test_backwards(self):
        for walk in CLOSED + some_walks(193, 20):
            other = backwards(walk=walk)
            self.same(cells_walked(other), cells_walked(walk)[::-1])
            self.same(len(other.parts), len(walk.parts))
            self.same([times for _, times in other.parts], [times for _, times in walk.parts[::-1]])
            self.assertEqual(backwards(other), walk)
        self.same(backwards(AROUND).parts, (("N", 2), ("E", 3), ("S", 2), ("W", 3)))
        self.same(backwards(OPEN[1]).cell, (1, 0))
        self.same(backwards(Walk((0, 0), [("EEN", LONG)])).parts, (("SWW", LONG),))

    def test_reach(self):
        for walk in CLOSED + some_walks(194, 40):
            xs, ys = [x for x, _ in cells_walked(walk)], [y for _, y in cells_walked(walk)]
            self.same(reach(walk=walk), (min(xs), max(xs), min(ys), max(ys)))
        self.same(reach(Walk((7, -3))), (7, 7, -3, -3))
        self.same(reach(Walk((7, -3), [("EN", 0)])), (7, 7, -3, -3))
        self.same(reach(Walk((0, 0), [("ESSN", LONG), ("WWWE", LONG)])), (-LONG - 1, LONG, -LONG - 1, 0))

    def test_enclosed(self):
        for walk in CLOSED:
            area = enclosed_by_hand(walk)
            self.same(enclosed(walk=walk), area)
            self.same(enclosed(backwards(walk)), -area)
            for cell in ((5, 5), (-GREAT, GREAT)):
                self.same(enclosed(moved_to(walk, cell)), area)
            self.same(enclosed(told_again(walk, 3)), 3 * area)
        for one, other in zip(CLOSED, CLOSED[1:]):
            self.same(enclosed(walk_joined(one, other)), enclosed(one) + enclosed(other))
        self.same(enclosed(AROUND), 6)
        self.same(enclosed(Walk((9, 9))), 0)

    def test_enclosed_by_great_walks(self):
        around = Walk((-5, 7), [("E", LONG), ("N", 10 ** 29), ("W", LONG), ("S", 10 ** 29)])
        self.same(enclosed(around), LONG * 10 ** 29)
        self.same(enclosed(Walk((GREAT, 0), [("ENWS", LONG), ("NESW", LONG // 2)])), LONG // 2)
        # Up by stairs and straight back: half of a square, and half of its diagonal.
        stairs = Walk((0, 0), [("EN", LONG), ("W", LONG), ("S", LONG)])
        self.same(enclosed(stairs), LONG * (LONG + 1) // 2)
        self.same(enclosed(told_again(backwards(stairs), 20)), -10 * LONG * (LONG + 1))
        few = Walk((3, 2), [("EEN", 30), ("NW", 20), ("WWS", 10), ("WSW", 10), ("S", 30)])
        self.same(shift_of("EEN"), (2, 1))
        self.same(enclosed(few), enclosed_by_hand(few))

    def test_wrong_arguments(self):
        for function in (is_closed, backwards, reach, enclosed):
            self.refuses(function, {"walk": AROUND})
        for walk in OPEN:
            self.bears(NotSo, "word", "closed", enclosed, walk)
            self.bears(NotSo, "word", "closed", enclosed, walk=walk)


if __name__ == "__main__":
    unittest.main()
