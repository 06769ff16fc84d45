"""Carpets: the colours of all cells, told by a lattice and the colours at its places."""

from endlessplane.basics import is_row, require_colour, require_pair
from endlessplane.errors import BadIndex, BadPart, TooMany
from endlessplane.periods import Lattice, require_lattice, require_lattice_numbers

FIGURES = "0123456789"

MOST_PLACES = 144


class Carpet:
    """A carpet told by a, b, d and d rows of a figures each."""

    def __init__(self, a, b, d, rows):
        require_lattice_numbers(a, b, d)
        if a * d > MOST_PLACES:
            raise TooMany(MOST_PLACES)
        if not is_row(rows) or len(rows) != d:
            raise BadPart("rows")
        for index, row in enumerate(rows):
            if not _is_row_of_figures(row, a):
                raise BadIndex(index)
        self.a = a
        self.b = b
        self.d = d
        self.rows = tuple(rows)
        self._normal = _normal_form(b, d, self.rows)

    def __eq__(self, other):
        return isinstance(other, Carpet) and self._normal == other._normal

    def colour(self, cell):
        """The colour of a cell."""
        x, y = self.lattice().place(cell)
        return int(self.rows[y][x])

    def lattice(self):
        """The told lattice."""
        return Lattice(self.a, self.b, self.d)

    def least(self):
        """The lattice of all periods."""
        a, b, d, _ = self._normal
        return Lattice(a, b, d)

    def normal(self):
        """The normal form (a, b, d, rows)."""
        return self._normal

    def in_normal(self):
        """The same carpet, told by its normal form."""
        a, b, d, rows = self._normal
        return Carpet(a, b, d, rows)

    def shares(self):
        """How many cells of each colour one cell of the least lattice has, a list of ten numbers."""
        text = "".join(self._normal[3])
        return [text.count(figure) for figure in FIGURES]

    def moved_by(self, shift):
        """The moved carpet, in its normal form."""
        require_pair(shift, "shift")
        # The moved carpet has the same periods, so these rows are those of its normal form.
        a, b, d, _ = self._normal
        rows = [row_text(self, (-shift[0], y - shift[1]), a) for y in range(d)]
        return Carpet(a, b, d, rows)

    def is_period(self, shift):
        """Whether each cell has the colour of the cell shifted by this."""
        require_pair(shift, "shift")
        return shift in self.least()


def plain(colour):
    """The carpet of one colour."""
    require_colour(colour)
    return Carpet(1, 0, 1, [FIGURES[colour]])


def woven(lattice, colour_of):
    """The carpet told by the lattice, with the colours that a function gives of its places."""
    require_lattice(lattice)
    if lattice.area() > MOST_PLACES:
        raise TooMany(MOST_PLACES)
    rows = []
    for y in range(lattice.d):
        figures = []
        for x in range(lattice.a):
            colour = colour_of((x, y))
            require_colour(colour)
            figures.append(FIGURES[colour])
        rows.append("".join(figures))
    return Carpet(lattice.a, lattice.b, lattice.d, rows)


def require_carpet(value):
    """Raise BadPart unless the value is a Carpet."""
    if not isinstance(value, Carpet):
        raise BadPart("carpet")


def row_text(carpet, cell, wide):
    """The figures of the colours of so many neighbouring cells of a row, from this cell on."""
    x, y = carpet.lattice().place(cell)
    row = carpet.rows[y]
    return (_turned_row(row, x) * (wide // carpet.a + 1))[:wide]


def _is_row_of_figures(row, many):
    """Whether any value is a string of so many figures."""
    return isinstance(row, str) and len(row) == many and all([sign in FIGURES for sign in row])


def _turned_row(row, by):
    """The figures of a row that comes again and again, from this index on."""
    return row[by:] + row[:by]


def _normal_form(b, d, rows):
    """The normal form of what is told by a lattice with these b and d, and by these rows."""
    a = _least_width(rows)
    slant, height = _least_rise(a, b, d, rows)
    return (a, slant, height, tuple([row[:a] for row in rows[:height]]))


def _least_width(rows):
    """The least x of 1 or more such that (x, 0) is a period."""
    wide = 1
    while not all([_turned_row(row, wide) == row for row in rows]):
        wide = wide + 1
    return wide


def _least_rise(wide, b, d, rows):
    """The period (s, y) with the least y of 1 or more, and with s from 0 to below the least width."""
    # Such a y divides d, as (b, d) is a period; and so (b modulo wide, d) is found at last.
    heights = [y for y in range(1, d) if d % y == 0]
    for y in heights:
        for s in range(wide):
            if _comes_again(b, rows, s, y):
                return (s, y)
    return (b % wide, d)


def _comes_again(b, rows, s, y):
    """Whether the shift (s, y) is a period, y being less than the number of rows."""
    many = len(rows)
    for index, row in enumerate(rows):
        up = (index + y) // many
        other = rows[index + y - up * many]
        if _turned_row(other, (s - b * up) % len(row)) != row:
            return False
    return True
