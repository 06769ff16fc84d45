"""Which cell of a colour is the n-th one of a region, and which place a cell has."""

from endlessplane.basics import require_from, require_pair
from endlessplane.carpets import require_carpet
from endlessplane.counts import ColourRows, count_of, require_finite_counted, slab_count
from endlessplane.cuts import require_finite
from endlessplane.regions import Region


def nth_of_colour(carpet, region, colour, n):
    """The cell number n of the colour in a finite region, by y, then x, or None."""
    require_finite_counted(carpet, region, colour)
    require_from(n, 0)
    rows = ColourRows(carpet, colour)
    ahead = 0
    for slab in region.slabs():
        many = slab_count(rows, slab)
        if n < ahead + many:
            return _nth_in_slab(rows, slab, n - ahead)
        ahead = ahead + many
    return None


def ahead_of(carpet, region, colour, cell):
    """How many cells of the colour in a finite region are ahead of a cell."""
    _require_asked(carpet, region, colour, cell)
    return count_of(carpet, cut_ahead(region, cell), colour)


def place_in(carpet, region, cell):
    """The place of a cell among those of its own colour, None if the region does not have it."""
    require_carpet(carpet)
    require_finite(region)
    require_pair(cell, "cell")
    return ahead_of(carpet, region, carpet.colour(cell), cell) if cell in region else None


def next_behind(carpet, region, colour, cell):
    """The first cell of the colour in a finite region that is behind a cell, or None."""
    _require_asked(carpet, region, colour, cell)
    # Ahead of the next cell of the row are just those ahead of the cell, and the cell.
    behind = (cell[0] + 1, cell[1])
    return nth_of_colour(carpet, region, colour, ahead_of(carpet, region, colour, behind))


def last_ahead(carpet, region, colour, cell):
    """The last cell of the colour in a finite region that is ahead of a cell, or None."""
    many = ahead_of(carpet, region, colour, cell)
    return None if many == 0 else nth_of_colour(carpet, region, colour, many - 1)


def cut_ahead(region, cell):
    """What of the region is ahead of a cell."""
    x, y = cell
    return region & Region([(None, None, None, y), (None, x, y, y + 1)])


def _require_asked(carpet, region, colour, cell):
    """Raise an error unless these are a Carpet, a finite Region, a colour and a cell."""
    require_finite_counted(carpet, region, colour)
    require_pair(cell, "cell")


def _nth_in_slab(rows, slab, n):
    """The cell number n of the spots of a finite slab, which has more than n of them."""
    y0, y1, xs = slab
    first_rows = rows.first_rows(y0, y1)
    counts = [rows.many(y, xs) for y in first_rows]
    times = n // sum(counts)
    left = n - times * sum(counts)
    for y, many in zip(first_rows, counts):
        if left < many:
            return (_nth_in_row(rows, y, xs, left), y + times * rows.again)
        left = left - many


def _nth_in_row(rows, y, xs, n):
    """The x number n of the spots in the stretches of a row, which have more than n of them."""
    for x0, x1 in xs:
        many = rows.spots_from(y, x0, x1)
        if n < many:
            return rows.nth_from(y, x0, n)
        n = n - many
