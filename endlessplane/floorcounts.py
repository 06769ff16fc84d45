"""How many cells of a region have a colour on a floor, and which one is the n-th."""

from endlessplane.basics import least_that, require_colour, require_from, require_pair
from endlessplane.carpets import FIGURES
from endlessplane.counts import ColourRows, count_of, counts_of, slab_count
from endlessplane.cuts import hull_of, require_finite
from endlessplane.floors import require_floor, shown_parts
from endlessplane.nthcells import cut_ahead
from endlessplane.regions import require_region, side_by_side, slab_changes


def floor_count(floor, region, colour):
    """How many cells of the region have the colour on the floor, None if there is no end of them."""
    _require_counted(floor, region, colour)
    return _sum_of([count_of(carpet, part, colour) for part, carpet in shown_parts(floor, region)])


def census(floor, region):
    """The tuple of the numbers of cells of the region that have the colours 0 to 9 on the floor."""
    require_floor(floor)
    require_region(region)
    rows = [counts_of(carpet, part) for part, carpet in shown_parts(floor, region)]
    return tuple([_sum_of([counts[colour] for counts in rows]) for colour in range(len(FIGURES))])


def floor_nth(floor, region, colour, n):
    """The cell number n of the colour on the floor in a finite region, by y, then x, or None."""
    _require_finite_counted(floor, region, colour)
    require_from(n, 0)
    parts = shown_parts(floor, region)
    rows = [ColourRows(carpet, colour) for _, carpet in parts]
    for y0, y1, levels in side_by_side([slab_changes(part.slabs()) for part, _ in parts]):
        many = _many_in_band(rows, (y0, y1, levels))
        if n < many:
            return _nth_in_band(rows, (y0, y1, levels), hull_of(region), n)
        n = n - many
    return None


def floor_place(floor, region, colour, cell):
    """The place of a cell among those of the colour in a finite region; None if it is none of these."""
    _require_finite_counted(floor, region, colour)
    require_pair(cell, "cell")
    if cell not in region or floor.colour(cell) != colour:
        return None
    return floor_count(floor, cut_ahead(region, cell), colour)


def _require_counted(floor, region, colour):
    """Raise an error unless these are a Floor, a Region, a colour."""
    require_floor(floor)
    require_region(region)
    require_colour(colour)


def _require_finite_counted(floor, region, colour):
    """Likewise, and NotSo unless the region has an end."""
    _require_counted(floor, region, colour)
    require_finite(region)


def _sum_of(counts):
    """The sum of some counts, None if one of them is None."""
    return None if None in counts else sum(counts)


def _many_in_band(rows, band):
    """How many cells of the colour a band (y0, y1, levels) has, levels being the stretches that each carpet shows."""
    y0, y1, levels = band
    return sum([slab_count(one, (y0, y1, xs)) for one, xs in zip(rows, levels)])


def _nth_in_band(rows, band, hull, n):
    """The cell number n of the colour in a band, which has more than n of them, in the hull of the region."""
    y0, y1, levels = band
    y = least_that(y0, y1, lambda row: _many_in_band(rows, (y0, row + 1, levels)) > n)
    left = n - _many_in_band(rows, (y0, y, levels))
    return (least_that(hull[0], hull[1], lambda x: _many_up_to(rows, y, levels, x) > left), y)


def _many_up_to(rows, y, levels, x):
    """How many cells of the colour a row of a band has up to this x, with it."""
    end = x + 1
    return sum([one.spots_from(y, x0, min(int(x1), end)) for one, xs in zip(rows, levels) for x0, x1 in xs if x0 < end])
