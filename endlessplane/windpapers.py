"""Papers that show what a word goes round, and how often a closed walk winds round a cell, and their checkers."""

from endlessplane.basics import is_box, is_pair, is_paper, is_whole, require_pair
from endlessplane.closed import require_closed
from endlessplane.cuts import size_of
from endlessplane.inside import LEAST_LETTERS, hand_of, inside, is_closed_word, is_simple, row_boxes
from endlessplane.lines import in_stretch
from endlessplane.regions import MadeSlabs, Region, slabs_of_boxes
from endlessplane.stretches import Stretch
from endlessplane.walks import offsets_of
from endlessplane.windings import rounds_in_row, upright_letters


def word_paper(word):
    """A right paper of a word."""
    offsets = offsets_of(word)
    if not is_closed_word(word):
        return ("open", offsets[-1])
    if len(word) < LEAST_LETTERS:
        return ("short", len(word))
    for j in range(1, len(word)):
        i = offsets.index(offsets[j])
        if i < j:
            return ("twice", i, j)
    return ("inside", hand_of(word), tuple(row_boxes((0, 0), word)))


def shows_word(word, value):
    """Whether any value is a right paper of a word."""
    offsets = offsets_of(word)
    if not is_closed_word(word):
        return is_paper(value, "open", 2) and is_pair(value[1]) and value[1] == offsets[-1]
    if is_paper(value, "short", 2):
        return is_whole(value[1]) and value[1] == len(word) and len(word) < LEAST_LETTERS
    if is_paper(value, "twice", 3):
        return is_pair(value[1:]) and _is_twice(offsets, value[1], value[2])
    return is_paper(value, "inside", 3) and is_simple(word) and _shows_inside(word, value[1], value[2])


def winding_paper(walk, cell):
    """The paper of how often a closed walk winds round a cell: a tuple of tuples (part, place, from, to)."""
    require_closed(walk)
    require_pair(cell, "cell")
    found = []
    for letter in upright_letters(walk):
        rounds = _rounds_east(letter, cell)
        if rounds is not None:
            found.append((letter.part, letter.step - 1, rounds.low, rounds.high))
    return tuple(found)


def shows_winding(walk, cell, value):
    """Whether any value is just this paper."""
    paper = winding_paper(walk, cell)
    # Only what has the form is compared: other values may have an == of any kind, and True is equal to 1.
    return isinstance(value, tuple) and all([_is_row_of_integers(item) for item in value]) and value == paper


def _is_twice(offsets, i, j):
    """Whether a closed word is on one corner behind i and behind j letters, not 0 and all."""
    last = len(offsets) - 1
    return 0 <= i < j <= last and (i, j) != (0, last) and offsets[i] == offsets[j]


def _shows_inside(word, hand, boxes):
    """Whether any values are the hand of a simple word, and boxes that have each cell of its inside once."""
    if not is_whole(hand) or hand != hand_of(word):
        return False
    if not isinstance(boxes, tuple) or not all([is_box(box) and None not in box for box in boxes]):
        return False
    region = inside((0, 0), word)
    # With as many cells as there are, none is in two boxes; so all other tuples of many boxes are refused at once.
    if sum([(x1 - x0) * (y1 - y0) for x0, x1, y0, y1 in boxes]) != size_of(region):
        return False
    return Region(MadeSlabs(slabs_of_boxes(boxes))) == region


def _rounds_east(letter, cell):
    """The Stretch of the rounds at which a letter crosses the row of a cell east of it, or None."""
    rounds = rounds_in_row(letter, cell[1])
    east = in_stretch(letter.cell[0], letter.shift[0], Stretch(cell[0] + 1))
    return None if rounds is None or east is None else rounds.common(east)


def _is_row_of_integers(value):
    """Whether any value is a tuple of integers."""
    return isinstance(value, tuple) and all([is_whole(item) for item in value])
