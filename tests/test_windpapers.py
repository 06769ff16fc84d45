"""Papers of words, and of windings, and their checkers."""

import itertools

from endlessplane.errors import NotSo
from endlessplane.inside import hand_of, is_simple
from endlessplane.walks import Walk, shift_of
from endlessplane.windings import winding
from endlessplane.windpapers import shows_winding, shows_word, winding_paper, word_paper
from tests.helpers import (
    GREAT, NO_PAIRS, NO_PAPERS, Everything, PlaneCase, Touchy, cells_walked, every_word, same, some_words,
)
from tests.test_closed import AROUND, CLOSED, LONG, OPEN

WORDS = ["E", "EN", "EW", "SN", "ENW", "ENSW", "ENWS", "NESW", "EENNWWSS", "WWNNEESS", "ENWSENWS", "EENWSW", "EWNS",
         "ENENWWWSSE", "EEENNNWWWSSS", "EENNWSWS", "ENWSWNES", "E" * 6 + "N" * 6 + "W" * 6 + "S" * 6]

# What tells no paper of any of the words, whatever it begins with.
BENT = [None, (), (0, 0), [0, 0], (0, 0, 0), True, "", "1", -1, 25, GREAT, ((0, 1, 0, 1), (0, 1, 0, 1)), Everything(),
        ((0, None, 0, 1),), ((0, 1, 0),), (None,), [(0, 1, 0, 1)], ((0, True, 0, 1),), ([0, 1, 0, 1],), ((1, 0, 0, 1),)]


def steps_on_corners(word):
    """The list of pairs of neighbouring corners of a word that is done from (0, 0)."""
    corners = cells_walked(Walk((0, 0), [(word, 1)]))
    return list(zip(corners, corners[1:]))


def sides_of(cells):
    """The steps round cells that have one of them alone beside them, with the cells to the left."""
    found = []
    for x, y in cells:
        for (across, up), side in (((0, -1), ((x, y), (x + 1, y))), ((1, 0), ((x + 1, y), (x + 1, y + 1))),
                                   ((0, 1), ((x + 1, y + 1), (x, y + 1))), ((-1, 0), ((x, y + 1), (x, y)))):
            if (x + across, y + up) not in cells:
                found.append(side)
    return found


def meets_across(cells):
    """Whether some corner has just two of the cells, across from one another."""
    for x, y in itertools.product(range(-15, 16), repeat=2):
        low, high = ((x - 1, y - 1) in cells, (x, y) in cells), ((x, y - 1) in cells, (x - 1, y) in cells)
        if low != high and low[0] == low[1] and high[0] == high[1]:
            return True
    return False


def shows_inside_by_hand(word, hand, boxes):
    """What the document says of (inside, hand, boxes), side by side, of boxes near (0, 0)."""
    told = [cell for x0, x1, y0, y1 in boxes for cell in itertools.product(range(x0, x1), range(y0, y1))]
    if len(set(told)) != len(told) or meets_across(told):
        return False
    sides = sides_of(set(told))
    if hand == -1:
        sides = [(other, one) for one, other in sides]
    return sorted(sides) == sorted(steps_on_corners(word))


class WordPaperTest(PlaneCase):
    def test_examples(self):
        self.same(word_paper("ENWS"), ("inside", 1, ((0, 1, 0, 1),)))
        self.same(word_paper(word="NESW"), ("inside", -1, ((0, 1, 0, 1),)))
        self.same(word_paper("EENNWSWS"), ("inside", 1, ((0, 2, 0, 1), (1, 2, 1, 2))))
        self.same(word_paper("ENWNESSSWWNE"), ("twice", 2, 6))
        self.same((word_paper("EW"), word_paper("SN"), word_paper("EWEW")), (("short", 2), ("short", 2),
                                                                             ("twice", 0, 2)))
        self.same((word_paper("E"), word_paper("EEN"), word_paper("S" * 24)),
                  (("open", (1, 0)), ("open", (2, 1)), ("open", (0, -24))))
        self.same((word_paper("EENWSW"), word_paper("ENSW"), word_paper("ENWSENWS")),
                  (("twice", 1, 5), ("twice", 1, 3), ("twice", 0, 4)))
        # Three rows, of which the middle one has two boxes.
        self.same(word_paper("EEENNWSWNWSS"),
                  ("inside", 1, ((0, 3, 0, 1), (0, 1, 1, 2), (2, 3, 1, 2))))

    def test_each_word_has_one(self):
        kinds = set()
        for word in [told for many in range(1, 7) for told in every_word(many)] + some_words(311, 300, 24) + WORDS:
            paper = word_paper(word)
            self.same(shows_word(word, paper), True)
            kinds.add(paper[0])
            corners = cells_walked(Walk((0, 0), [(word, 1)]))
            if corners[-1] != (0, 0):
                self.same(paper, ("open", corners[-1]))
            elif len(word) < 4:
                self.same(paper, ("short", len(word)))
            else:
                pairs = [(j, i) for j in range(len(word) + 1) for i in range(j)
                         if corners[i] == corners[j] and (i, j) != (0, len(word))]
                if pairs:
                    self.same(paper, ("twice",) + min(pairs)[::-1])
                else:
                    self.same(paper[:2], ("inside", hand_of(word)))
                    self.assertTrue(shows_inside_by_hand(word, paper[1], paper[2]))
        self.assertEqual(kinds, {"open", "short", "twice", "inside"})

    def test_boxes_are_few_and_in_order(self):
        for word in [told for told in every_word(8) if is_simple(told)] + WORDS:
            paper = word_paper(word)
            if paper[0] == "inside":
                boxes = paper[2]
                self.assertTrue(all(y1 == y0 + 1 for _, _, y0, y1 in boxes))
                self.same(list(boxes), sorted(boxes, key=lambda box: (box[2], box[0])))
                for (_, x1, y0, _), (x2, _, y2, _) in zip(boxes, boxes[1:]):
                    self.assertTrue(y0 != y2 or x1 < x2)

    def test_wrong_arguments(self):
        self.refuses(word_paper, {"word": "ENWS"})
        self.refuses(shows_word, {"word": "ENWS", "value": None})
        for value in NO_PAPERS + BENT + [Touchy()]:
            for word in WORDS:
                self.same(shows_word(value=value, word=word), False)


class ShowsWordTest(PlaneCase):
    def test_pairs_and_numbers(self):
        for word in WORDS:
            corners = cells_walked(Walk((0, 0), [(word, 1)]))
            closed = corners[-1] == (0, 0)
            for corner in itertools.product(range(-3, 4), repeat=2):
                self.same(shows_word(word, ("open", corner)), not closed and corner == corners[-1])
            for many in range(-1, 26):
                self.same(shows_word(word, ("short", many)), closed and many == len(word) < 4)
            for i, j in itertools.product(range(-2, len(word) + 2), repeat=2):
                wanted = closed and 0 <= i < j <= len(word) and (i, j) != (0, len(word)) and corners[i] == corners[j]
                self.same(shows_word(word, ("twice", i, j)), wanted)

    def test_bent(self):
        for word in WORDS:
            paper = word_paper(word)
            for place in range(1, len(paper)):
                for value in BENT + [Touchy(), [paper[place]], (paper[place],)]:
                    if not same(value, paper[place]):
                        self.same(shows_word(word, paper[:place] + (value,) + paper[place + 1:]), False)
            for bent in (paper[:-1], paper + (0,), list(paper), (paper,), (paper[0].encode(),) + paper[1:],
                         (Everything(),) + paper[1:], (paper[0].upper(),) + paper[1:]):
                self.same(shows_word(word, bent), False)
        self.same(shows_word("ENWS", ("inside", True, ((0, 1, 0, 1),))), False)
        self.same(shows_word("ENWS", ("inside", 1, ((0, True, 0, 1),))), False)
        self.same(shows_word("ENWS", ("inside", 1, ((False, 1, 0, 1),))), False)
        self.same(shows_word("E", ("open", (True, 0))), False)
        self.same(shows_word("E", ("open", [1, 0])), False)
        self.same(shows_word("ENSW", ("twice", True, 3)), False)
        self.same(shows_word("EWEW", ("twice", False, 2)), False)
        self.same(shows_word("EWEW", ("twice", 0, 2)), True)
        self.same(shows_word("EWEW", ("twice", 2, 4)), True)
        self.same(shows_word("EWEW", ("twice", 0, 4)), False)

    def test_boxes_told_otherwise(self):
        word = "EENNWWSS"
        for boxes in (((0, 2, 0, 2),), ((0, 1, 0, 2), (1, 2, 0, 2)), ((1, 2, 0, 2), (0, 1, 0, 2)),
                      ((0, 2, 1, 2), (0, 2, 0, 1)), ((0, 1, 0, 1), (1, 2, 1, 2), (0, 1, 1, 2), (1, 2, 0, 1))):
            self.same(shows_word(word, ("inside", 1, boxes)), True)
            self.same(shows_word(word[::-1].translate(str.maketrans("ENWS", "WSEN")), ("inside", -1, boxes)), True)
            self.same(shows_word(word, ("inside", -1, boxes)), False)
            self.same(shows_word(word, ("inside", 1, boxes[1:])), False)
            self.same(shows_word(word, ("inside", 1, boxes + boxes[:1])), False)
            self.same(shows_word(word, ("inside", 1, boxes + ((5, 6, 5, 6),))), False)
        # As many cells, but one of them twice; two that meet in a corner only.
        self.same(shows_word(word, ("inside", 1, ((0, 2, 0, 1), (0, 1, 0, 2)))), False)
        self.same(shows_word("ENENWSWS", ("inside", 1, ((0, 1, 0, 1), (1, 2, 1, 2)))), False)
        self.same(shows_word("ENENWSWS", ("twice", 2, 6)), True)
        many = tuple((x, x + 1, 0, 1) for x in range(3000))
        self.same(shows_word(word, ("inside", 1, many)), False)
        self.same(shows_word(word, ("inside", 1, ((0, GREAT, 0, GREAT),))), False)

    def test_side_by_side(self):
        some = [(0, 1, 0, 1), (0, 2, 0, 1), (1, 2, 0, 1), (0, 1, 1, 2), (1, 2, 1, 2), (0, 2, 0, 2), (-1, 0, 0, 1)]
        tuples = [boxes for many in range(4) for boxes in itertools.combinations(some, many)]
        shown = 0
        for word in ["ENWS", "WSEN", "NESW", "EENNWWSS", "EENWWS", "EENNWSWS", "ENENWSWS", "EWEW", "EN", "ENWSENWS",
                     "ENNWSS", "WNES", "EENWWWSE", "SWNE", "ENWWSE"]:
            for hand, boxes in itertools.product((1, -1), tuples):
                wanted = shows_inside_by_hand(word, hand, boxes)
                self.same(shows_word(word, ("inside", hand, boxes)), wanted)
                shown += wanted
        self.assertGreater(shown, 10)


class WindingPaperTest(PlaneCase):
    def by_hand(self, walk, cell):
        """The paper, step by step."""
        found = []
        for part, ((word, times), (moment, _)) in enumerate(zip(walk.parts, walk.begins())):
            for place, letter in enumerate(word):
                begun = [walk.at(moment + turn * len(word) + place) for turn in range(times)]
                rows = [(x, y if letter == "N" else y - 1) for x, y in begun]
                east = [turn for turn, (x, y) in enumerate(rows) if y == cell[1] and x > cell[0]]
                if letter in "NS" and east:
                    self.assertEqual(east, list(range(east[0], east[-1] + 1)))
                    found.append((part, place, east[0], east[-1] + 1))
        return tuple(found)

    def test_step_by_step(self):
        told = 0
        for walk in CLOSED:
            signs = {"N": 1, "S": -1}
            for cell in itertools.product(range(-4, 6, 3), range(-4, 6, 2)):
                paper = winding_paper(walk, cell)
                self.same(paper, self.by_hand(walk, cell))
                self.same(shows_winding(walk, cell, paper), True)
                total = sum(signs[walk.parts[part][0][place]] * (to - low) for part, place, low, to in paper)
                self.same(total, winding(walk, cell))
                told += len(paper)
                for bent in (paper + ((0, 0, 0, 1),), list(paper), paper[1:] if paper else (paper,),
                             tuple(list(row) for row in paper) or [], paper[::-1] if len(paper) > 1 else None,
                             tuple(row[:3] + (row[3] + 1,) for row in paper) or (None,)):
                    self.same(shows_winding(walk, cell, bent), False)
        self.assertGreater(told, 200)

    def test_great_numbers(self):
        walk = Walk((0, 0), [("NES", LONG), ("W", LONG)])
        self.same(winding_paper(walk, (-1, 0)), ((0, 0, 0, LONG), (0, 2, 0, LONG)))
        self.same(winding_paper(walk, (7, 0)), ((0, 0, 8, LONG), (0, 2, 7, LONG)))
        self.same(winding_paper(cell=(LONG, 0), walk=walk), ())
        self.same(winding_paper(walk, (0, 1)), ())
        self.same(shows_winding(value=((0, 0, 8, LONG), (0, 2, 7, LONG)), cell=(7, 0), walk=walk), True)
        self.same(shows_winding(walk, (7, 0), ((0, 0, 8, LONG), (0, 2, 8, LONG))), False)
        stairs = Walk((0, 0), [("EN", LONG), ("W", LONG), ("S", LONG)])
        self.same(winding_paper(stairs, (3, 10 ** 29)), ((0, 1, 10 ** 29, 10 ** 29 + 1),))
        self.same(winding_paper(stairs, (-1, 10 ** 29)),
                  ((0, 1, 10 ** 29, 10 ** 29 + 1), (2, 0, LONG - 10 ** 29 - 1, LONG - 10 ** 29)))
        west = Walk((0, 0), [("WNWS", LONG), ("EE", LONG)])
        self.same(winding_paper(west, (-8, 0)), ((0, 1, 0, 4), (0, 3, 0, 3)))

    def test_wrong_arguments(self):
        self.refuses(winding_paper, {"walk": AROUND, "cell": (0, 0)})
        self.refuses(shows_winding, {"walk": AROUND, "cell": (0, 0), "value": None})
        for walk in OPEN:
            for value in NO_PAIRS + [(0, 0)]:
                self.bears(NotSo, "word", "closed", winding_paper, walk, value)
                self.bears(NotSo, "word", "closed", shows_winding, walk, value, ())
        for value in [told for told in NO_PAPERS if told != ()] + [((None,) * 4,), Everything(), Touchy(), (Touchy(),),
                                                                  (Everything(),), ((Everything(),) * 4,)]:
            self.same(shows_winding(AROUND, (0, 0), value), False)
            self.same(shows_winding(AROUND, (9, 9), value), False)
        self.same(winding_paper(AROUND, (2, 1)), ((1, 0, 1, 2),))
        self.same(shows_winding(AROUND, (2, 1), ((True, 0, 1, 2),)), False)
        self.same(shows_winding(AROUND, (2, 1), ((1, False, True, 2),)), False)
        self.same((shows_winding(AROUND, (9, 9), ()), shows_winding(AROUND, (9, 9), [])), (True, False))

    def test_word_papers_of_closed_words(self):
        for word in [told for told in every_word(6) if shift_of(told) == (0, 0)][::7]:
            for cell in ((0, 0), (-1, 0), (0, -1)):
                walk = Walk((0, 0), [(word, 3)])
                self.same(winding_paper(walk, cell), self.by_hand(walk, cell))
