"""Cells that part carpets, and papers that show whether carpets are alike."""

from endlessplane.basics import is_pair, is_paper, require_pair
from endlessplane.carpets import MOST_PLACES, Carpet, require_carpet, row_text
from endlessplane.errors import BadIndex, BadPart, TooMany
from endlessplane.periods import require_lattice


def parting_cell(one, other):
    """The least cell, by y, then x, from 0 on, of unlike colours in both, or None."""
    require_carpet(one)
    require_carpet(other)
    return parting_in_box(one, other, (0, None, 0, None))


def parting_in_box(one, other, box):
    """A cell of a box that has unlike colours in both, or None; the least one, by y, then x, if it has low ends."""
    if one == other:
        return None
    # Rows that come again after a and after a' cells are the same if they agree on a + a' of them;
    # likewise columns. So if the box has unlike cells, some are among these.
    x0, x1 = _some_of(box[0], box[1], one.least().a + other.least().a)
    y0, y1 = _some_of(box[2], box[3], one.least().order((0, 1)) + other.least().order((0, 1)))
    for y in range(y0, y1):
        texts = row_text(one, (x0, y), x1 - x0), row_text(other, (x0, y), x1 - x0)
        if texts[0] != texts[1]:
            return (x0 + unlike_index(texts[0], texts[1]), y)
    return None


def breaking_cell(carpet, shift):
    """The least cell, by y, then x, from 0 on, with another colour than the shifted one, or None."""
    require_carpet(carpet)
    require_pair(shift, "shift")
    return parting_cell(carpet, carpet.moved_by((-shift[0], -shift[1])))


def likeness_paper(one, other):
    """The paper that shows whether two carpets are alike."""
    cell = parting_cell(one, other)
    if cell is not None:
        return ("parted", cell)
    a, b, d, rows = one.normal()
    return ("alike", a, b, d, rows)


def shows_alike(one, other, value):
    """Whether any value is a paper that shows that both carpets are alike."""
    require_carpet(one)
    require_carpet(other)
    if not is_paper(value, "alike", 5) or not isinstance(value[4], tuple):
        return False
    try:
        told = Carpet(value[1], value[2], value[3], value[4])
    except (BadPart, BadIndex, TooMany):
        return False
    return told == one and told == other


def shows_parted(one, other, value):
    """Whether any value is a paper that shows that both carpets are not alike."""
    require_carpet(one)
    require_carpet(other)
    if not is_paper(value, "parted", 2) or not is_pair(value[1]):
        return False
    return one.colour(value[1]) != other.colour(value[1])


def least_paper(carpet):
    """The paper that shows that the least lattice of the carpet is the least one."""
    require_carpet(carpet)
    places = carpet.least().places()
    return ("least", {place: breaking_cell(carpet, place) for place in places if place != (0, 0)})


def shows_least(carpet, lattice, value):
    """Whether the carpet can be told by the lattice, and any value shows that this is the least one."""
    require_carpet(carpet)
    require_lattice(lattice)
    if lattice.area() > MOST_PLACES or not lattice <= carpet.least():
        return False
    if not is_paper(value, "least", 2) or not isinstance(value[1], dict):
        return False
    # So many keys, each of them a place but (0, 0), are just the places but (0, 0).
    if len(value[1]) != lattice.area() - 1:
        return False
    return all([_breaks(carpet, lattice, place, cell) for place, cell in value[1].items()])


def _breaks(carpet, lattice, place, cell):
    """Whether any value is a place but (0, 0), and any other one a cell of another colour than the shifted one."""
    if not is_pair(place) or lattice.place(place) != place or not is_pair(cell):
        return False
    # For (0, 0) there is no such cell, as each cell has its own colour.
    return carpet.colour(cell) != carpet.colour((cell[0] + place[0], cell[1] + place[1]))


def unlike_index(one, other):
    """The least index at which two strings of one length, that are not equal, have unlike signs."""
    index = 0
    while one[index] == other[index]:
        index = index + 1
    return index


def _some_of(low, high, many):
    """The ends of so many neighbouring integers from low on below high, beginning at low if it is one; or of all."""
    if low is None:
        return (0, many) if high is None else (high - many, high)
    return (low, low + many if high is None else min(int(high), low + many))
