"""How often a closed walk winds round cells, and which rows it crosses where."""

from endlessplane.basics import require_pair, require_whole
from endlessplane.closed import SIGNS, line_sum, require_closed
from endlessplane.cuts import boxes_of, require_finite
from endlessplane.lines import in_stretch, on_number
from endlessplane.stretches import Stretch
from endlessplane.walks import letters_of


def winding(walk, cell):
    """How often a closed walk winds round a cell."""
    require_closed(walk)
    require_pair(cell, "cell")
    east = Stretch(cell[0] + 1)
    return sum([sign * _many_at(x, step, many, east) for x, step, many, sign in crossings(walk, cell[1])])


def row_sum(walk, y):
    """The sum of all windings of a closed walk round the cells of a row."""
    return sum([sign * line_sum(x, step, many) for x, step, many, sign in crossings(walk, y)])


def region_sum(walk, region):
    """The sum of the windings of a closed walk round the cells of a finite region."""
    require_closed(walk)
    require_finite(region)
    upright = upright_letters(walk)
    return sum([SIGNS[letter.letter] * _cells_west(letter, box) for box in boxes_of(region) for letter in upright])


def crossings(walk, y):
    """The list of the tuples (X, s, count, sign) of how a closed walk crosses a row, by parts and their letters."""
    require_closed(walk)
    require_whole(y)
    found = []
    for letter in upright_letters(walk):
        rounds = rounds_in_row(letter, y)
        if rounds is not None:
            x, step, many = _x_line(letter, rounds)
            found.append((x, step if many > 1 else 0, many, SIGNS[letter.letter]))
    return found


def upright_letters(walk):
    """The list of the letters N and S of a walk."""
    return [letter for letter in letters_of(walk) if letter.letter in SIGNS]


def rounds_in_row(letter, y):
    """The Stretch of the rounds at which a letter N or S crosses a row, or None."""
    rounds = on_number(_row_of(letter), letter.shift[1], y)
    return None if rounds is None else rounds.common(Stretch(0, letter.times))


def _row_of(letter):
    """The row that a letter N or S crosses first."""
    return letter.cell[1] - 1 if letter.letter == "N" else letter.cell[1]


def _x_line(letter, rounds):
    """The triple (x, step, many) of the x at which a letter is done in a Stretch of rounds."""
    return (letter.cell[0] + letter.shift[0] * rounds.low, letter.shift[0], rounds.count())


def _many_at(x, step, many, stretch):
    """How many x + step i, i from 0 on below many, are in a stretch."""
    found = in_stretch(x, step, stretch)
    found = None if found is None else found.common(Stretch(0, many))
    return 0 if found is None else found.count()


def _cells_west(letter, box):
    """The sum, over the times at which a letter crosses rows of a box with ends, of the cells of the row west of it."""
    x0, x1, y0, y1 = box
    rounds = in_stretch(_row_of(letter), letter.shift[1], Stretch(y0, y1))
    rounds = None if rounds is None else rounds.common(Stretch(0, letter.times))
    if rounds is None:
        return 0
    x, step, many = _x_line(letter, rounds)
    total = (x1 - x0) * _many_at(x, step, many, Stretch(x1))
    within = in_stretch(x, step, Stretch(x0, x1))
    within = None if within is None else within.common(Stretch(0, many))
    if within is None:
        return total
    return total + line_sum(x - x0 + step * within.low, step, within.count())
