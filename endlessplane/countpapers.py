"""Papers that show how many cells of a region have a colour, and which one is the n-th."""

from endlessplane.basics import is_box, is_colour, is_from, is_paper, is_whole, require_colour
from endlessplane.carpets import FIGURES, require_carpet, row_text
from endlessplane.counts import count_of, require_finite_counted
from endlessplane.cuts import boxes_of, is_finite, size_of
from endlessplane.errors import BadNumber, BadPart
from endlessplane.nthcells import cut_ahead, nth_of_colour
from endlessplane.regions import require_region, slabs_of_boxes

MOST_CELLS = 21000


def is_block(carpet, value):
    """Whether any value is a block that is right for the carpet."""
    require_carpet(carpet)
    if not isinstance(value, tuple) or len(value) != 3:
        return False
    box, across, up = value
    if not is_box(box) or None in box or not is_from(across, 1) or not is_from(up, 1):
        return False
    wide, high = box[1] - box[0], box[3] - box[2]
    if wide % across != 0 or high % up != 0:
        return False
    return _is_right(carpet, (wide // across, high // up), across, up)


def pattern_count(carpet, block, colour):
    """How many cells of the colour the pattern of a right block has."""
    if not is_block(carpet, block):
        raise BadPart("block")
    require_colour(colour)
    return _in_pattern(carpet, block, colour)


def count_paper(carpet, region, colour):
    """The paper that shows the count of the colour in a finite region."""
    require_finite_counted(carpet, region, colour)
    blocks = [block for box in boxes_of(region) for block in _blocks_of(carpet, box)]
    return ("count", colour, count_of(carpet, region, colour), tuple(blocks))


def nth_paper(carpet, region, colour, n):
    """The paper that shows which cell of the colour in a finite region is the n-th one."""
    require_finite_counted(carpet, region, colour)
    if not is_from(n, 0) or n >= count_of(carpet, region, colour):
        raise BadNumber(n)
    cell = nth_of_colour(carpet, region, colour, n)
    _, _, _, blocks = count_paper(carpet, cut_ahead(region, cell), colour)
    return ("nth", colour, n, cell, blocks)


def shows_count(carpet, region, value):
    """Whether any value is a right paper of a count in the region."""
    require_carpet(carpet)
    require_region(region)
    if not is_paper(value, "count", 4):
        return False
    _, colour, number, blocks = value
    if not is_colour(colour) or not is_whole(number) or not isinstance(blocks, tuple):
        return False
    if not all([is_block(carpet, block) for block in blocks]) or not _are_just(region, [box for box, _, _ in blocks]):
        return False
    return number == sum([across * up * _in_pattern(carpet, (box, across, up), colour) for box, across, up in blocks])


def shows_nth(carpet, region, value):
    """Whether any value is a right paper of an n-th cell in the region."""
    require_carpet(carpet)
    require_region(region)
    if not is_finite(region) or not is_paper(value, "nth", 5):
        return False
    _, colour, n, cell, blocks = value
    if not is_colour(colour) or cell not in region or carpet.colour(cell) != colour:
        return False
    return shows_count(carpet, cut_ahead(region, cell), ("count", colour, n, blocks))


def _is_right(carpet, pattern, across, up):
    """Whether a block with a pattern of this width and height, so many times across and up, is right."""
    wide, high = pattern
    if wide * high > MOST_CELLS or (across > 1 and not carpet.is_period((wide, 0))):
        return False
    if up == 1 or carpet.is_period((0, high)):
        return True
    # All y of periods are multiples of d, and each multiple is the y of one.
    return carpet.is_period((wide * across, 0)) and high % carpet.least().d == 0


def _in_pattern(carpet, block, colour):
    """How many cells of the colour the pattern of a block has, gone through row by row."""
    (x0, x1, y0, y1), across, up = block
    texts = [row_text(carpet, (x0, y), (x1 - x0) // across) for y in range(y0, y0 + (y1 - y0) // up)]
    return sum([text.count(FIGURES[colour]) for text in texts])


def _are_just(region, boxes):
    """Whether boxes with ends, no two of which have a common cell, have together just the cells of the region."""
    # They have as many cells as the region only if none is counted twice.
    size = sum([(x1 - x0) * (y1 - y0) for x0, x1, y0, y1 in boxes])
    return size == size_of(region) and slabs_of_boxes(boxes) == region.slabs()


def _blocks_of(carpet, box):
    """The list of right blocks into which a box with ends is cut."""
    least = carpet.least()
    x0, x1, y0, y1 = box
    # On the left patterns of the least lattice; on the right, too narrow for these, columns that come again.
    middle = x0 + (x1 - x0) // least.a * least.a
    left = _blocks_up((x0, middle, y0, y1), (middle - x0) // least.a, least.d)
    return left + _blocks_up((middle, x1, y0, y1), 1, least.order((0, 1)))


def _blocks_up(box, across, rows):
    """The blocks of a box, perhaps an empty one, cut at the greatest multiple of so many rows."""
    x0, x1, y0, y1 = box
    up = (y1 - y0) // rows
    middle = y0 + up * rows
    blocks = [((x0, x1, y0, middle), across, up), ((x0, x1, middle, y1), across, 1)]
    return [block for block in blocks if is_box(block[0])]
