"""Sizes, hulls, boxes, cells and pieces of regions."""

from endlessplane.basics import is_row, require_from, require_pair
from endlessplane.errors import BadIndex, BadPart, NotSo
from endlessplane.regions import Region, require_region, row_at, side_by_side, slab_changes, stretch_changes


def is_finite(region):
    """Whether the region has only so many cells."""
    return not any([None in box for box in boxes_of(region)])


def size_of(region):
    """How many cells the region has, None if there is no end of them."""
    if not is_finite(region):
        return None
    return sum([(x1 - x0) * (y1 - y0) for x0, x1, y0, y1 in boxes_of(region)])


def hull_of(region):
    """The least box that has all cells of the region, None if it has none."""
    require_region(region)
    slabs = region.slabs()
    if not slabs:
        return None
    lows = [xs[0][0] for _, _, xs in slabs]
    highs = [xs[-1][1] for _, _, xs in slabs]
    x0 = None if None in lows else min([int(low) for low in lows])
    x1 = None if None in highs else max([int(high) for high in highs])
    return (x0, x1, slabs[0][0], slabs[-1][1])


def boxes_of(region):
    """The list of the boxes of the slabs, by slabs, then by stretches."""
    require_region(region)
    return [(x0, x1, y0, y1) for y0, y1, xs in region.slabs() for x0, x1 in xs]


def require_finite(region):
    """Raise BadPart unless the value is a Region, NotSo unless it has an end."""
    if not is_finite(region):
        raise NotSo("end")


def nth_cell(region, n):
    """The cell number n of a finite region, by y, then x, or None."""
    require_finite(region)
    require_from(n, 0)
    ahead = 0
    for y0, y1, xs in region.slabs():
        wide = _width(xs)
        up = (n - ahead) // wide
        if up < y1 - y0:
            return (_nth_column(xs, n - ahead - up * wide), y0 + up)
        ahead = ahead + wide * (y1 - y0)
    return None


def place_of(region, cell):
    """The number of a cell of a finite region, None if the region does not have it."""
    require_finite(region)
    require_pair(cell, "cell")
    if cell not in region:
        return None
    x, y = cell
    below = sum([_width(xs) * (min(int(y1), y) - y0) for y0, y1, xs in region.slabs() if y0 < y])
    return below + sum([min(int(x1), x) - x0 for x0, x1 in row_at(region, y) if x0 < x])


def cells_of(region):
    """Each cell of a finite region, by y, then x."""
    require_finite(region)
    for y0, y1, xs in region.slabs():
        for y in range(y0, y1):
            for x0, x1 in xs:
                for x in range(x0, x1):
                    yield (x, y)


def pieces(regions):
    """The list of pairs (box, truths): boxes cut at all ends, each with the truths whether it is in each region."""
    if not is_row(regions):
        raise BadPart("regions")
    for index, item in enumerate(regions):
        if not isinstance(item, Region):
            raise BadIndex(index)
    found = []
    for y0, y1, rows in side_by_side([slab_changes(region.slabs()) for region in regions]):
        for x0, x1, truths in side_by_side([stretch_changes(row) for row in rows]):
            found.append(((x0, x1, y0, y1), truths))
    return found


def region_parting(one, other):
    """A cell that just one of two regions has, of finite ones the least by y, then x; None if they are equal."""
    require_region(one)
    require_region(other)
    boxes = boxes_of((one - other) | (other - one))
    if not boxes:
        return None
    x0, x1, y0, y1 = boxes[0]
    return (_some_number(x0, x1), _some_number(y0, y1))


def _width(xs):
    """How many cells the stretches of a row have."""
    return sum([x1 - x0 for x0, x1 in xs])


def _nth_column(xs, n):
    """The x number n of the stretches of a row, which have more than n of them."""
    for x0, x1 in xs:
        if n < x1 - x0:
            return x0 + n
        n = n - (x1 - x0)


def _some_number(low, high):
    """The least integer from low on below high, or any if there is no least one."""
    if low is not None:
        return low
    return 0 if high is None else high - 1
