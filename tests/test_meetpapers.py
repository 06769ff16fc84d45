"""Papers of meetings."""

import unittest

from endlessplane.meetings import many_meetings
from endlessplane.meetpapers import is_meet_paper, meet_paper, shown_by
from endlessplane.walkforms import told_again
from endlessplane.walks import Walk
from tests.helpers import NO_PAPERS, Everything, PlaneCase, Touchy, cells_walked
from tests.test_meetings import EMPTY, EN, KINDS, LONG, NE, PAIR, PAIRS, meetings_by_hand

ONE, OTHER = Walk((0, 0), [("EN", 6), ("W", 4)]), Walk((4, 0), [("WNE", 3), ("ES", 4)])


def moments_of(walk):
    """The dict from each moment but 0 to the part and step that is done then."""
    return {moment: (walk.part_at(moment)[0], walk.part_at(moment)[2]) for moment in range(1, walk.end() + 1)}


def is_right_by_hand(one, other, value):
    """Whether a paper of the right form is right, moment by moment."""
    starts, rows = value
    cells, others, steps, other_steps = cells_walked(one), cells_walked(other), moments_of(one), moments_of(other)
    for a, k, b, l, first, step, many, word, at in rows:
        moments = [first + step * number for number in range(many)]
        done = all(steps.get(moment) == (a, k) and other_steps.get(moment) == (b, l) for moment in moments)
        if step < 1 or many < 1 or not done:
            return False
        met = [number for number, moment in enumerate(moments) if cells[moment] == others[moment]]
        right = {"always": len(met) == many and at == 0, "never": not met and at == 0,
                 "once": met == [at] and many > 1}
        if not right.get(word, False):
            return False
    places = [row[:4] for row in rows]
    return starts is (one.cell == other.cell) and len(set(places)) == len(places) \
        and sum(row[6] for row in rows) == min(len(cells), len(others)) - 1


def bent(paper):
    """Papers with one entry bent, a row left out, or a row told twice."""
    starts, rows = paper
    found = [(not starts, rows), (starts, rows[1:]), (starts, rows[:-1]), (starts, rows + rows[:1]), (starts, ())]
    for index, row in enumerate(rows):
        def with_row(*others):
            return (starts, rows[:index] + others + rows[index + 1:])

        for place, value in enumerate(row):
            if place == 7:
                worths = [word for word in ("always", "never", "once", "", "Never", "one") if word != value]
            else:
                worths = [value + 1, value - 1, value + row[5], -value - 1]
            found += [with_row(row[:place] + (worth,) + row[place + 1:]) for worth in worths]
        if row[6] > 1:
            # One row as two: each place stands in one row alone.
            first, step, many = row[4:7]
            found.append(with_row(row[:6] + (1,) + ("never", 0), row[:4] + (first + step, step, many - 1) + row[7:]))
    return found


class PaperTest(PlaneCase):
    def test_papers(self):
        words = {"always": 0, "never": 0, "once": 0}
        for one, other in PAIRS:
            paper = meet_paper(one, other)
            self.assertTrue(is_right_by_hand(one, other, paper))
            self.assertIs(is_meet_paper(one, other, paper), True)
            self.assertIs(is_meet_paper(value=paper, other=other, one=one), True)
            self.same(shown_by(paper), len(meetings_by_hand(one, other)))
            self.same(shown_by(paper=meet_paper(other=other, one=one)), many_meetings(one, other))
            for row in paper[1]:
                words[row[7]] += 1
        self.assertGreater(min(words.values()), 20)

    def test_other_right_papers(self):
        paper = meet_paper(ONE, OTHER)
        self.assertIs(is_meet_paper(ONE, OTHER, (paper[0], paper[1][::-1])), True)
        # With one moment the step may be any.
        single = [row for row in paper[1] if row[6] == 1]
        self.assertTrue(single)
        for step in (1, 2, 5, LONG):
            rows = tuple(row[:5] + (step,) + row[6:] if row[6] == 1 else row for row in paper[1])
            self.assertIs(is_meet_paper(ONE, OTHER, (paper[0], rows)), True)

    def test_bent_papers(self):
        refused, let = 0, 0
        for one, other in [(ONE, OTHER)] + PAIRS[::12]:
            paper = meet_paper(one, other)
            for value in bent(paper):
                right = is_right_by_hand(one, other, value) if all(row[6] < 500 for row in value[1]) else False
                self.assertIs(is_meet_paper(one, other, value), right, value)
                refused, let = refused + (not right), let + right
        self.assertGreater(refused, 1000)

    def test_words(self):
        one, other = Walk((0, 0), [("E", 6)]), Walk((6, 0), [("W", 6)])
        self.same(meet_paper(one, other), (False, ((0, 1, 0, 1, 1, 1, 6, "once", 2),)))
        self.same(shown_by(meet_paper(one, other)), 1)
        row = (0, 1, 0, 1, 1, 1, 6)
        for word, at in (("once", 3), ("once", 1), ("always", 0), ("never", 0), ("once", 0), ("never", 2)):
            self.assertIs(is_meet_paper(one, other, (False, (row + (word, at),))), False)
        self.same(meet_paper(one, one), (True, ((0, 1, 0, 1, 1, 1, 6, "always", 0),)))
        self.assertIs(is_meet_paper(one, one, (True, (row + ("always", 1),))), False)
        # Just one moment: they meet there always, and not once.
        one, other = Walk((0, 0), [("E", 1)]), Walk((2, 0), [("W", 1)])
        self.assertIs(is_meet_paper(one, other, (False, ((0, 1, 0, 1, 1, 1, 1, "always", 0),))), True)
        self.assertIs(is_meet_paper(one, other, (False, ((0, 1, 0, 1, 1, 1, 1, "once", 0),))), False)
        self.assertIs(is_meet_paper(one, other, (False, ((0, 1, 0, 1, 1, 1, 1, "never", 0),))), False)
        # Numbers at which both are on one cell, but behind the last one of the row.
        one, other = Walk((0, 0), [("E", 2)]), Walk((6, 0), [("W", 2)])
        self.same(meet_paper(one, other)[1], ((0, 1, 0, 1, 1, 1, 2, "never", 0),))

    def test_walks_without_parts(self):
        for one, other, starts in ((EMPTY, EMPTY, True), (EMPTY, EN, True), (Walk((0, 1)), EN, False)):
            self.same(meet_paper(one, other), (starts, ()))
            self.assertIs(is_meet_paper(one, other, (starts, ())), True)
            self.assertIs(is_meet_paper(one, other, (not starts, ())), False)
            self.same(shown_by((starts, ())), int(starts))
        self.assertIs(is_meet_paper(EN, NE, (True, ())), False)
        idle = Walk((0, 0), [("E", 0), ("EN", 3)])
        self.same([row[:4] for row in meet_paper(idle, NE)[1]], [(1, 1, 0, 1), (1, 2, 0, 2)])
        self.assertIs(is_meet_paper(idle, NE, meet_paper(Walk((0, 0), [("EN", 3)]), NE)), False)

    def test_great_numbers(self):
        paper = meet_paper(EN, NE)
        right = (True, ((0, 1, 0, 1, 1, 2, LONG, "never", 0), (0, 2, 0, 2, 2, 2, LONG, "always", 0)))
        self.assertIs(is_meet_paper(EN, NE, paper), True)
        self.assertIs(is_meet_paper(EN, NE, right), True)
        self.same((shown_by(paper), shown_by(right)), (LONG + 1, LONG + 1))
        for value in bent(right):
            self.assertIs(is_meet_paper(EN, NE, value), False)
        # One moment fewer, one more, one too early.
        for first, many in ((1, LONG - 1), (1, LONG + 1), (3, LONG - 1), (-1, LONG + 1), (-1, LONG), (3, LONG)):
            wrong = (True, ((0, 1, 0, 1, first, 2, many, "never", 0), right[1][1]))
            self.assertIs(is_meet_paper(EN, NE, wrong), False)
        one = Walk((0, 0), [("EEN", LONG), ("W", LONG)])
        other = Walk((5, 7), [("NEE", 2 * LONG), ("SW", LONG)])
        self.assertIs(is_meet_paper(one, other, meet_paper(one, other)), True)
        self.assertIs(is_meet_paper(other, one, meet_paper(one, other)), False)
        self.same(shown_by(meet_paper(one, other)), many_meetings(one, other))

    def test_walks_of_many_parts(self):
        one, other = told_again(ONE, 8), told_again(OTHER, 10)
        paper = meet_paper(one, other)
        self.assertTrue(is_right_by_hand(one, other, paper))
        self.assertIs(is_meet_paper(one, other, paper), True)
        self.same(shown_by(paper), len(meetings_by_hand(one, other)))

    def test_no_papers(self):
        starts, rows = paper = meet_paper(ONE, OTHER)
        row, rest = rows[0], rows[1:]
        wrong = [[starts, rows], (starts, list(rows)), (int(starts), rows), (None, rows), ("", rows), (starts,),
                 (starts, rows, ()), (starts, rows[0]), (starts, (list(row),) + rest), (starts, (row[:8],) + rest),
                 (starts, (row + (0,),) + rest), (starts, rest + (None,)), (starts, rest + ((),)), (starts, None),
                 (starts, {}), rows, Everything(), (Everything(), rows), (starts, Everything()), Touchy(),
                 (starts, (Touchy(),) + rest)]
        for place in range(9):
            for value in (True, False, None, "0", 1.0, (0,), Everything(), Touchy(), b"never"):
                wrong.append((starts, (row[:place] + (value,) + row[place + 1:],) + rest))
        for value in NO_PAPERS + wrong:
            self.assertIs(is_meet_paper(ONE, OTHER, value), False)
        self.assertIs(is_meet_paper(ONE, OTHER, paper), True)

    def test_true_is_no_integer(self):
        one = Walk((0, 0), [("E", 1)])
        right = (0, 1, 0, 1, 1, 1, 1, "always", 0)
        self.assertIs(is_meet_paper(one, one, (True, (right,))), True)
        for place in (0, 1, 2, 3, 4, 5, 6, 8):
            row = right[:place] + (bool(right[place]),) + right[place + 1:]
            self.assertEqual(row, right)
            self.assertIs(is_meet_paper(one, one, (True, (row,))), False)
        self.assertIs(is_meet_paper(one, one, (1, (right,))), False)

    def test_wrong_arguments(self):
        self.refuses(meet_paper, PAIR, KINDS)
        self.refuses(is_meet_paper, {**PAIR, "value": (True, ())}, KINDS)


if __name__ == "__main__":
    unittest.main()
