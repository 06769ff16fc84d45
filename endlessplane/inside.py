"""Words that go round an inside, done once from a corner, and the loops that can be taken out of a closed word."""

from endlessplane.basics import cell_along, require_pair
from endlessplane.closed import enclosed, reach
from endlessplane.cuts import cells_of
from endlessplane.errors import NotSo
from endlessplane.regions import Region
from endlessplane.walks import STEPS, Walk, offsets_of, shift_of
from endlessplane.windings import crossings

LEAST_LETTERS = 4


def is_closed_word(word):
    """Whether the word leads nowhere."""
    return shift_of(word) == (0, 0)


def is_simple(word):
    """Whether the word is closed, has four letters or more and comes to no corner twice but to the first one."""
    corners = offsets_of(word)[1:]
    return is_closed_word(word) and len(word) >= LEAST_LETTERS and len(set(corners)) == len(corners)


def hand_of(word):
    """1 if the cells inside lie to the left of a simple word, -1 if to its right."""
    _require_simple(word)
    return 1 if enclosed(Walk((0, 0), [(word, 1)])) > 0 else -1


def inside(corner, word):
    """The Region of the cells round which a simple word winds from a corner."""
    return Region(row_boxes(corner, word))


def within(corner, word):
    """The list of the corners round which all four cells are inside, by y, then x."""
    region = inside(corner, word)
    # A corner to which the word comes has cells on both sides of it, so it is none of these.
    return [(x, y) for x, y in cells_of(region)
            if all([cell in region for cell in ((x - 1, y), (x - 1, y - 1), (x, y - 1))])]


def loops(word):
    """The list of the pairs (corner, word) of the loops, in the order in which they are taken out."""
    if not is_closed_word(word):
        raise NotSo("closed")
    row, letters = [(0, 0)], ""
    found = []
    for letter in word:
        corner = cell_along(row[-1], STEPS[letter], 1)
        letters = letters + letter
        if corner in row:
            at = row.index(corner)
            found.append((corner, letters[at:]))
            row, letters = row[:at + 1], letters[:at]
        else:
            row.append(corner)
    return found


def row_boxes(corner, word):
    """The list of the boxes of one row each, as long as can be, that have the inside of a simple word, by y, then x."""
    require_pair(corner, "corner")
    _require_simple(word)
    walk = Walk(corner, [(word, 1)])
    _, _, y0, y1 = reach(walk)
    return [(x0, x1, y, y + 1) for y in range(y0, y1) for x0, x1 in _stretches_in_row(walk, y)]


def _require_simple(word):
    """Raise BadPart unless the value is a word, NotSo unless it is closed, and simple."""
    if not is_closed_word(word):
        raise NotSo("closed")
    if not is_simple(word):
        raise NotSo("simple")


def _stretches_in_row(walk, y):
    """The list of the pairs (from, to) of the cells inside of a row."""
    # Along the row each crossing leads into the inside or out of it, by turns.
    xs = sorted([int(crossing[0]) for crossing in crossings(walk, y)])
    return list(zip(xs[::2], xs[1::2]))
