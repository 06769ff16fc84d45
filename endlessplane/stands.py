"""At how many moments a walk stands on a colour in a region, and at which ones, as rows (first, gap, many)."""

from endlessplane.basics import cell_along, is_from, is_whole, require_colour, require_from, require_pair
from endlessplane.carpets import FIGURES, require_carpet
from endlessplane.cuts import boxes_of
from endlessplane.errors import BadNumber
from endlessplane.floors import require_floor, shown_parts
from endlessplane.lines import both_remainders, greatest_divisor, in_box
from endlessplane.regions import Region, require_region
from endlessplane.stretches import Spread, Stretch
from endlessplane.walks import letters_of, require_walk


def stands(walk, region, carpet=None, colour=None):
    """How often the walk stands on the colour of the carpet, or on any without one, in the region."""
    require_stands(walk, region, carpet, colour)
    return many_in(_moments_on(walk, region, carpet, colour))


def stands_ahead(walk, moment, region, carpet=None, colour=None):
    """How often it does so at moments less than this one."""
    require_stands(walk, region, carpet, colour)
    require_from(moment, 0)
    return many_ahead(_moments_on(walk, region, carpet, colour), moment)


def colours_of(walk, region, carpet):
    """The tuple of the ten numbers of how often it stands on each colour of the carpet in the region."""
    require_walk(walk)
    require_region(region)
    require_carpet(carpet)
    found = _coloured_moments(walk, region, carpet)
    return tuple([many_in([row for hue, row in found if hue == colour]) for colour in range(len(FIGURES))])


def floor_stands(walk, region, floor, colour):
    """How often it stands on the colour of a floor in the region."""
    require_walk(walk)
    require_region(region)
    require_floor(floor)
    require_colour(colour)
    return sum([many_in(_moments_on(walk, part, carpet, colour)) for part, carpet in shown_parts(floor, region)])


def visits(walk, cell):
    """How often it is at a cell."""
    require_walk(walk)
    return stands(walk, region_of_cell(cell))


def rows_of_stands(walk, region, carpet=None, colour=None):
    """The tuple of right rows of the moments at which it stands so, by their firsts."""
    require_stands(walk, region, carpet, colour)
    return tuple(by_firsts(_moments_on(walk, region, carpet, colour)))


def lets_rows(walk, region, carpet, colour, value):
    """Whether any value is right rows of the moments at which it stands so."""
    rows = rows_of_stands(walk, region, carpet, colour)
    if not isinstance(value, tuple) or not all([_is_row_of_moments(item) for item in value]):
        return False
    # How much oftener the one tells a moment than the other, squared and added up over all, is 0 only if none is.
    return _many_shared(value, value) + many_in(rows) == 2 * _many_shared(value, rows)


def require_stands(walk, region, carpet, colour):
    """Raise an error unless these are a Walk, a Region, a Carpet with a colour or None with None."""
    require_walk(walk)
    require_region(region)
    require_painted(carpet, colour)


def require_painted(carpet, colour):
    """Raise an error unless these are a Carpet with a colour or None with None."""
    if carpet is not None:
        require_carpet(carpet)
        require_colour(colour)
    elif colour is not None:
        raise BadNumber(colour)


def region_of_cell(cell):
    """The Region of one cell."""
    require_pair(cell, "cell")
    x, y = cell
    return Region([(x, x + 1, y, y + 1)])


def coloured_rows(way, numbers, region, carpet):
    """The pairs (colour, row) of those of a Stretch of numbers i at which a way (cell, step) is in a region.

    At cell + i step the carpet has this colour, or it is None without a carpet; each number is in one row.
    """
    cell, step = way
    gap = 1 if carpet is None else carpet.least().order(step)
    found = []
    for stretch in _numbers_in(way, numbers, region):
        for first in range(stretch.low, min(int(stretch.high), stretch.low + gap)):
            colour = None if carpet is None else carpet.colour(cell_along(cell, step, first))
            found.append((colour, (first, gap, (stretch.high - 1 - first) // gap + 1)))
    return found


def many_on(way, numbers, places, colour):
    """At how many of a Stretch of numbers a way is on the colour at places, a list of pairs (region, carpet)."""
    found = [coloured_rows(way, numbers, region, carpet) for region, carpet in places]
    return sum([many_in([row for hue, row in rows if hue == colour]) for rows in found])


def many_in(rows):
    """How many moments some rows have, each one counted as often as they have it."""
    return sum([many for _, _, many in rows])


def many_ahead(rows, moment):
    """How many of them are less than this one."""
    return sum([min(int(many), (moment - 1 - first) // gap + 1) for first, gap, many in rows if first < moment])


def by_firsts(rows):
    """The list of rows without common moments, ascending by their firsts."""
    told = {first: (first, gap, many) for first, gap, many in rows}
    return [told[first] for first in sorted([int(number) for number in told])]


def common_row(one, other):
    """The row of the moments that two rows have in common, or None."""
    low = max(int(one[0]), other[0])
    high = min(int(_final_of(one)), _final_of(other))
    both = both_remainders(one[:2], other[:2]) if low <= high else None
    if both is None:
        return None
    r, gap = both
    first = low + (r - low) % gap
    return (first, gap, (high - first) // gap + 1) if first <= high else None


def _moments_on(walk, region, carpet, colour):
    """The rows of the moments at which the walk stands on the colour of the carpet in the region."""
    return [row for hue, row in _coloured_moments(walk, region, carpet) if hue == colour]


def _coloured_moments(walk, region, carpet):
    """The pairs (colour, row) of the moments at which the walk is in the region, the colour None without a carpet."""
    found = list(coloured_rows((walk.cell, (0, 0)), Stretch(0, 1), region, carpet))
    for letter in letters_of(walk):
        rows = coloured_rows((letter.cell, letter.shift), Stretch(0, letter.times), region, carpet)
        found.extend([(colour, (letter.begin + first * letter.length, gap * letter.length, many))
                      for colour, (first, gap, many) in rows])
    return found


def _numbers_in(way, numbers, region):
    """The list of the stretches of those of some numbers at which a way is in the region."""
    found = [in_box(way[0], way[1], box) for box in boxes_of(region)]
    found = [stretch.common(numbers) for stretch in found if stretch is not None]
    return Spread([stretch for stretch in found if stretch is not None]).told()


def _final_of(row):
    """The last moment of a row."""
    first, gap, many = row
    return first + gap * (many - 1)


def _is_row_of_moments(value):
    """Whether any value is a tuple (first, gap, many)."""
    if not isinstance(value, tuple) or len(value) != 3:
        return False
    return is_whole(value[0]) and is_from(value[1], 1) and is_from(value[2], 1)


def _many_shared(rows, others):
    """The sum, over all pairs of one of some rows and one of others, of how many moments they have in common."""
    total = 0
    others_by_gaps = _by_gaps(others)
    for gap, ones in _by_gaps(rows):
        for other_gap, twos in others_by_gaps:
            total = total + _many_shared_by(greatest_divisor(gap, other_gap), ones, twos)
    return total


def _many_shared_by(divisor, rows, others):
    """Likewise, where rows have moments in common only if their firsts have one remainder by a divisor of the gaps."""
    alike = {}
    for row in others:
        alike.setdefault(_remainder(row[0], divisor), []).append(row)
    total = 0
    for row in rows:
        found = [common_row(row, other) for other in alike.get(_remainder(row[0], divisor), [])]
        total = total + many_in([both for both in found if both is not None])
    return total


def _by_gaps(rows):
    """The list of pairs (gap, rows) of the rows that have this gap, which is 0 for those of one moment."""
    told = {}
    for row in rows:
        told.setdefault(row[1] if row[2] > 1 else 0, []).append(row)
    return list(told.items())


def _remainder(number, divisor):
    """What a number leaves by a divisor; by 0, the number."""
    return number if divisor == 0 else number % divisor
