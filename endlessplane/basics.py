"""What the modules ask of the values that they are handed."""

from endlessplane.errors import BadNumber, BadPart


def is_whole(value):
    """Whether any value is an integer, which neither True nor False is."""
    return isinstance(value, int) and not isinstance(value, bool)


def is_from(value, least):
    """Whether any value is an integer of this least one or more."""
    return is_whole(value) and value >= least


def is_row(value):
    """Whether any value can be taken where a list is asked for."""
    return isinstance(value, (list, tuple))


def is_pair(value):
    """Whether any value is a tuple of two integers, as cells, steps and shifts are."""
    return isinstance(value, tuple) and len(value) == 2 and is_whole(value[0]) and is_whole(value[1])


def is_span(low, high):
    """Whether any two values are the ends of integers from low on below high, at least one of them."""
    if not (low is None or is_whole(low)) or not (high is None or is_whole(high)):
        return False
    return low is None or high is None or low < high


def is_box(value):
    """Whether any value is a box (x0, x1, y0, y1)."""
    if not isinstance(value, tuple) or len(value) != 4:
        return False
    return is_span(value[0], value[1]) and is_span(value[2], value[3])


def is_colour(value):
    """Whether any value is a colour."""
    return is_whole(value) and 0 <= value <= 9


def is_paper(value, word, many):
    """Whether any value is a tuple of so many items, of which the first one is this word."""
    # The word is compared with strings only: other values may have an == of any kind.
    return isinstance(value, tuple) and len(value) == many and isinstance(value[0], str) and value[0] == word


def require_whole(value):
    """Raise BadNumber unless the value is an integer."""
    if not is_whole(value):
        raise BadNumber(value)


def require_from(value, least):
    """Raise BadNumber unless the value is an integer of this least one or more."""
    if not is_from(value, least):
        raise BadNumber(value)


def require_pair(value, part):
    """Raise BadPart with this word unless the value is a tuple of two integers."""
    if not is_pair(value):
        raise BadPart(part)


def require_colour(value):
    """Raise BadNumber unless the value is a colour."""
    if not is_colour(value):
        raise BadNumber(value)


def cell_along(cell, step, times):
    """The cell to which a step leads from a cell, if it is done so many times."""
    return (cell[0] + times * step[0], cell[1] + times * step[1])


def least_that(low, high, fits):
    """The least integer from low on that fits, by a function, high if none below fits; all behind one that fits do."""
    while low < high:
        middle = (low + high) // 2
        if fits(middle):
            high = middle
        else:
            low = middle + 1
    return low


def in_order(cells):
    """The list of unlike cells by y, then x."""
    rows = {}
    for x, y in cells:
        rows.setdefault(y, []).append(x)
    return [(x, y) for y in sorted([int(row) for row in rows]) for x in sorted([int(column) for column in rows[y]])]
