"""Regions: the cells that some boxes have together, told by slabs."""

from endlessplane.basics import is_box, is_pair, is_row, is_span, require_whole
from endlessplane.errors import BadIndex, BadPart, TooMany

MOST_BOXES = 40

# Of what is put together: which pairs of truths, whether one and whether the other has a cell, are kept.
EITHER = ((True, False), (False, True), (True, True))
BOTH = ((True, True),)
BUT_NOT = ((True, False),)

SLABS_OF_ALL = ((None, None, ((None, None),)),)


class MadeSlabs:
    """Slabs of which it is known that they have their form; a Region is made from them, however many they are."""

    def __init__(self, ready):
        self.ready = ready


class Region:
    """What up to forty boxes have together, or what is made of other regions."""

    def __init__(self, boxes=()):
        self._slabs = boxes.ready if isinstance(boxes, MadeSlabs) else _slabs_of_told(boxes)

    def __eq__(self, other):
        return isinstance(other, Region) and self._slabs == other._slabs

    def __le__(self, other):
        return not _put_together(self, other, BUT_NOT).slabs()

    def __contains__(self, cell):
        return is_pair(cell) and row_with(row_at(self, cell[1]), cell[0]) is not None

    def __or__(self, other):
        return _put_together(self, other, EITHER)

    def __and__(self, other):
        return _put_together(self, other, BOTH)

    def __sub__(self, other):
        return _put_together(self, other, BUT_NOT)

    def __invert__(self):
        return Region(MadeSlabs(_slabs_together(SLABS_OF_ALL, self._slabs, BUT_NOT)))

    def slabs(self):
        """The tuple of its slabs."""
        return self._slabs


def of_slabs(slabs):
    """The region that has these slabs."""
    if not _is_slabs(slabs):
        raise BadPart("slabs")
    return Region(MadeSlabs(slabs))


def row_at(region, y):
    """The tuple of the stretches that the region has in a row."""
    require_region(region)
    require_whole(y)
    slab = row_with(region.slabs(), y)
    return () if slab is None else slab[2]


def require_region(value):
    """Raise BadPart unless the value is a Region."""
    if not isinstance(value, Region):
        raise BadPart("region")


def slabs_of_boxes(boxes):
    """The slabs of what these boxes, however many, have together."""
    parts = [((y0, y1, ((x0, x1),)),) for x0, x1, y0, y1 in boxes]
    # By pairs, and pairs of these: so each box is put together with others only a few times.
    while len(parts) > 1:
        pairs = [_slabs_together(one, other, EITHER) for one, other in zip(parts[::2], parts[1::2])]
        parts = pairs + parts[2 * len(pairs):]
    return parts[0] if parts else ()


def row_with(rows, number):
    """Of ascending tuples (low, high, ..) that lie apart the one with low <= number < high, or None."""
    # Halving: all rows below first end at the number or below it, those from last on end above it.
    first, last = 0, len(rows)
    while first < last:
        middle = (first + last) // 2
        high = rows[middle][1]
        if high is not None and high <= number:
            first = middle + 1
        else:
            last = middle
    if first == len(rows):
        return None
    low = rows[first][0]
    return rows[first] if low is None or low <= number else None


def slab_changes(slabs):
    """The dict from each y, None being the beginning, at which the stretches of rows change, to those from there on."""
    return _changes(slabs, ())


def stretch_changes(stretches):
    """The dict from each x, None being the beginning, at which stretches begin or end, to whether one is there."""
    return _changes([(low, high, True) for low, high in stretches], False)


def side_by_side(rows):
    """The bands (low, high, worths) in which none of some rows of changes changes, worths being those of all rows."""
    cuts = {}
    for changes in rows:
        for at in changes:
            cuts[at] = True
    ends = sorted([int(at) for at in cuts if at is not None])
    worths = [changes[None] for changes in rows]
    bands = []
    for low, high in zip([None] + ends, ends + [None]):
        worths = [changes.get(low, worth) for changes, worth in zip(rows, worths)]
        bands.append((low, high, tuple(worths)))
    return bands


def _changes(bands, nothing):
    """The changes of ascending bands (low, high, worth), with this worth where no band is."""
    changes = {None: nothing}
    for low, high, worth in bands:
        changes[low] = worth
        if high is not None:
            changes[high] = nothing
    return changes


def _joined_bands(bands):
    """The bands that have some worth, of which those that touch and have the same one are joined."""
    joined = []
    for low, high, worth in bands:
        if not worth:
            continue
        if joined and joined[-1][1] == low and joined[-1][2] == worth:
            begun = joined.pop()[0]
            joined.append((begun, high, worth))
        else:
            joined.append((low, high, worth))
    return joined


def _put_together(one, other, kept):
    """The region of the cells for which the pair, whether one and whether the other has it, is kept."""
    if not isinstance(other, Region):
        raise TypeError("a Region is put together, and compared, with a Region only")
    return Region(MadeSlabs(_slabs_together(one.slabs(), other.slabs(), kept)))


def _slabs_together(one, other, kept):
    """The slabs of the cells for which the pair, whether one and whether the other has it, is kept."""
    bands = side_by_side([slab_changes(one), slab_changes(other)])
    return tuple(_joined_bands([(low, high, _row_together(rows, kept)) for low, high, rows in bands]))


def _row_together(rows, kept):
    """Likewise the stretches of two rows."""
    bands = side_by_side([stretch_changes(row) for row in rows])
    return tuple([band[:2] for band in _joined_bands([(low, high, pair in kept) for low, high, pair in bands])])


def _slabs_of_told(boxes):
    """The slabs of any value that is a list of up to forty boxes."""
    if not is_row(boxes):
        raise BadPart("boxes")
    for index, item in enumerate(boxes):
        if not is_box(item):
            raise BadIndex(index)
    if len(boxes) > MOST_BOXES:
        raise TooMany(MOST_BOXES)
    return slabs_of_boxes(boxes)


def _is_slabs(value):
    """Whether any value is a tuple of slabs, as a region tells them."""
    if not isinstance(value, tuple) or not all([_is_slab(item) for item in value]):
        return False
    pairs = list(zip(value, value[1:]))
    return all([_is_behind(one, other) and (one[1] < other[0] or one[2] != other[2]) for one, other in pairs])


def _is_slab(value):
    """Whether any value is one slab."""
    if not isinstance(value, tuple) or len(value) != 3:
        return False
    return is_span(value[0], value[1]) and _is_told_row(value[2])


def _is_told_row(value):
    """Whether any value is a tuple of the stretches of a row: one or more, with an integer between two of them."""
    if not isinstance(value, tuple) or not value or not all([_is_stretch(item) for item in value]):
        return False
    return all([_is_behind(one, other) and one[1] < other[0] for one, other in zip(value, value[1:])])


def _is_stretch(value):
    """Whether any value is a pair (from, to)."""
    return isinstance(value, tuple) and len(value) == 2 and is_span(value[0], value[1])


def _is_behind(one, other):
    """Whether of two tuples (low, high, ..) the other one begins where the first one ends, or above."""
    return one[1] is not None and other[0] is not None and one[1] <= other[0]
