"""Closed walks on corners: how far they reach, and what they enclose."""

from endlessplane.basics import cell_along
from endlessplane.errors import NotSo
from endlessplane.walkforms import turned_back
from endlessplane.walks import letters_of, require_walk

# How the letters count that cross a row.
SIGNS = {"N": 1, "S": -1}


def is_closed(walk):
    """Whether the walk stands at the last moment where it stood at moment 0."""
    require_walk(walk)
    return walk.goal() == walk.cell


def backwards(walk):
    """The walk gone backwards, from its last corner."""
    return turned_back(walk)


def reach(walk):
    """The tuple (x0, x1, y0, y1) of the least and the greatest x and y of its corners."""
    require_walk(walk)
    corners = [walk.cell]
    for letter in letters_of(walk):
        # What lies in between is between the first and the last corner of the letter.
        corners.append(letter.cell)
        corners.append(cell_along(letter.cell, letter.shift, letter.times - 1))
    return (min([int(x) for x, _ in corners]), max([int(x) for x, _ in corners]),
            min([int(y) for _, y in corners]), max([int(y) for _, y in corners]))


def enclosed(walk):
    """The sum of the x at which its steps N go, less that of its steps S."""
    require_closed(walk)
    upright = [letter for letter in letters_of(walk) if letter.letter in SIGNS]
    return sum([SIGNS[letter.letter] * line_sum(letter.cell[0], letter.shift[0], letter.times) for letter in upright])


def require_closed(walk):
    """Raise BadPart unless the value is a Walk, NotSo unless it is closed."""
    if not is_closed(walk):
        raise NotSo("closed")


def line_sum(a, b, many):
    """The sum of a + b i for the i from 0 on below many."""
    return a * many + b * (many * (many - 1) // 2)
