"""At which moment a walk stands somewhere for the n-th time; absences; papers."""

import unittest

from endlessplane.carpets import plain
from endlessplane.errors import BadNumber
from endlessplane.nthstands import (
    first_stand, last_stand, lets_stand, longest_absence, nth_stand, stand_paper,
)
from endlessplane.regions import Region
from endlessplane.stands import stands, stands_ahead, visits
from endlessplane.walks import Walk
from tests.helpers import (
    CHESS, COLUMNS, FAR, GREAT, NO_NUMBERS, NO_PAIRS, NO_PAPERS, SLANTED, SPARSE, Everything, cells_walked, some_walks,
)
from tests.test_stands import ALL, LONG, RIGHT, WALK, WALKS, StandsCase, asked, moments_by_hand


class NthTest(StandsCase):
    def test_step_by_step(self):
        for walk, region, carpet, colour in asked():
            moments = moments_by_hand(walk, region, carpet, colour)
            for n, moment in enumerate(moments + [None, None]):
                self.same(nth_stand(walk, region, carpet, colour, n), moment)
            self.assertIsNone(nth_stand(n=GREAT, colour=colour, carpet=carpet, region=region, walk=walk))
            first, last = (moments[0], moments[-1]) if moments else (None, None)
            self.same(first_stand(walk, region, carpet, colour), first)
            self.same(last_stand(walk, region, carpet, colour), last)
            self.same(first_stand(colour=colour, carpet=carpet, region=region, walk=walk), first)
            self.same(last_stand(colour=colour, carpet=carpet, region=region, walk=walk), last)

    def test_great_numbers(self):
        walk = Walk((0, 0), [("EN", LONG), ("SWW", 2 * LONG), ("W", 0), ("NES", LONG)])
        for region in (ALL, FAR, Region([(None, 5, 7, None)])):
            for carpet, colour in ((None, None), (CHESS, 0), (COLUMNS, 1), (SLANTED, 1), (SPARSE, 0), (SPARSE, 1)):
                many = stands(walk, region, carpet, colour)
                for n in (0, 1, 2, many // 3, many // 2 + 1, many - 2, many - 1):
                    if 0 <= n < many:
                        moment = nth_stand(walk, region, carpet, colour, n)
                        self.same(stands_ahead(walk, moment, region, carpet, colour), n)
                        self.same(stands_ahead(walk, moment + 1, region, carpet, colour), n + 1)
                        self.assertIs(lets_stand(walk, region, carpet, colour, (moment, n)), True)
                self.assertIsNone(nth_stand(walk, region, carpet, colour, many))
                last = nth_stand(walk, region, carpet, colour, many - 1) if many else None
                self.same(last_stand(walk, region, carpet, colour), last)
        self.same(nth_stand(Walk((0, 0), [("EN", LONG)]), ALL, CHESS, 0, 10 ** 29), 2 * 10 ** 29)
        self.same(last_stand(walk, Region([(0, 1, 0, 1)]), None, None), 0)
        self.assertIsNone(first_stand(walk, ALL, plain(3), 4))
        self.assertIsNone(last_stand(walk, ALL, plain(3), 4))

    def test_wrong_arguments(self):
        for function in (first_stand, last_stand):
            self.refuses_stands(function, RIGHT)
        for function in (nth_stand, stand_paper):
            self.refuses_stands(function, {**RIGHT, "n": 0})
            for value in NO_NUMBERS:
                self.bears(BadNumber, "number", value, function, *{**RIGHT, "n": value}.values())
                self.bears(BadNumber, "number", value, function, **{**RIGHT, "n": value})


class AbsenceTest(StandsCase):
    def absence_by_hand(self, walk, cell):
        """The longest absence, step by step."""
        moments = moments_by_hand(walk, Region([(cell[0], cell[0] + 1, cell[1], cell[1] + 1)]))
        return max((later - moment - 1 for moment, later in zip(moments, moments[1:])), default=None)

    def test_step_by_step(self):
        walks = WALKS + some_walks(151, 30, 6, 8, 5) + some_walks(152, 30, 6, 2, 6)
        walks += [Walk((0, 0), [("ENWS", times), ("E", many), ("W", many), ("EEWW", times)])
                  for times in range(5) for many in range(5)]
        some = 0
        for walk in walks:
            for cell in sorted(set(cells_walked(walk))) + [(99, 99)]:
                absence = self.absence_by_hand(walk, cell)
                self.same(longest_absence(walk, cell), absence)
                self.same(longest_absence(cell=cell, walk=walk), absence)
                some += absence is not None
        self.assertGreater(some, 300)

    def test_great_numbers(self):
        self.same(longest_absence(Walk((0, 0), [("EW", LONG)]), (0, 0)), 1)
        self.same(longest_absence(Walk((0, 0), [("EW", LONG)]), (1, 0)), 1)
        self.assertIsNone(longest_absence(Walk((0, 0), [("EW", LONG)]), (2, 0)))
        self.same(longest_absence(Walk((0, 0), [("E", LONG), ("W", LONG)]), (3, 0)), 2 * LONG - 7)
        self.assertIsNone(longest_absence(Walk((0, 0), [("E", LONG), ("W", LONG)]), (LONG, 0)))
        walk = Walk((0, 0), [("ENWS", LONG), ("NS", LONG), ("EENNWWSS", 10 ** 29), ("EW", LONG)])
        # The last time on (1, 1) in the squares is 2 steps ahead of their end; then it is on (1, 0) only.
        self.same(longest_absence(walk, (1, 1)), 3)
        self.same(longest_absence(walk, (1, 0)), 2 + 2 * LONG + 1)
        self.same(longest_absence(walk, (2, 2)), 7)
        self.same(longest_absence(walk, (0, 1)), 7)
        self.same(longest_absence(walk, (0, 0)), 7)
        self.assertIsNone(longest_absence(Walk((0, 0)), (0, 0)))
        self.assertIsNone(longest_absence(walk, (5, 5)))

    def test_absences_of_each_cell_are_told_by_visits(self):
        for walk in WALKS:
            for cell in set(cells_walked(walk)):
                self.assertIs(longest_absence(walk, cell) is None, visits(walk, cell) < 2)

    def test_wrong_arguments(self):
        self.refuses(longest_absence, {"walk": WALK, "cell": (0, 0)})


class PaperTest(StandsCase):
    def test_papers(self):
        for walk, region, carpet, colour in asked()[::2]:
            moments = moments_by_hand(walk, region, carpet, colour)
            for n, moment in enumerate(moments):
                paper = stand_paper(walk, region, carpet, colour, n)
                self.same(paper, (moment, n))
                self.assertIs(lets_stand(walk, region, carpet, colour, paper), True)
                self.assertIs(lets_stand(value=paper, colour=colour, carpet=carpet, region=region, walk=walk), True)
            self.assertIsNone(stand_paper(n=len(moments), colour=colour, carpet=carpet, region=region, walk=walk))
            right = [(moment, n) for n, moment in enumerate(moments)]
            for moment in range(-1, min(walk.end(), 12) + 2):
                for ahead in range(-1, 6):
                    let = lets_stand(walk, region, carpet, colour, (moment, ahead))
                    self.assertIs(let, (moment, ahead) in right)

    def test_papers_that_just_fail(self):
        walk = Walk((0, 0), [("EN", LONG)])
        self.assertIs(lets_stand(walk, ALL, CHESS, 0, (2 * LONG, LONG)), True)
        for value in ((2 * LONG, LONG - 1), (2 * LONG, LONG + 1), (2 * LONG - 1, LONG), (2 * LONG + 2, LONG + 1),
                      (2 * LONG + 1, LONG), (-2, -1), (-1, 0), (0, 1), (0, -1)):
            self.assertIs(lets_stand(walk, ALL, CHESS, 0, value), False)

    def test_no_papers(self):
        walk = Walk((0, 0), [("EN", 2)])
        for value in NO_PAPERS + NO_PAIRS + [[0, 0], (0, 0, 0), (False, False), (0, False), (False, 0), ("0", 0),
                                             (2, True), Everything(), (Everything(), 0)]:
            self.assertIs(lets_stand(walk, ALL, CHESS, 0, value), False)
        self.assertIs(lets_stand(walk, ALL, None, None, (1, 1)), True)
        self.assertIs(lets_stand(walk, ALL, CHESS, 0, (2, 1)), True)

    def test_wrong_arguments(self):
        self.refuses_stands(lets_stand, {**RIGHT, "value": (0, 0)})


if __name__ == "__main__":
    unittest.main()
