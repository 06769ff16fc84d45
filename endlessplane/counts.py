"""How many cells of a region have a colour of a carpet; rows and runs of such cells."""

from endlessplane.basics import require_colour
from endlessplane.carpets import FIGURES, require_carpet, row_text
from endlessplane.cuts import require_finite
from endlessplane.laying import recoloured
from endlessplane.regions import require_region, row_at


class ColourRows:
    """Where in the rows of a carpet the cells of one colour are: the spots."""

    def __init__(self, carpet, colour):
        # With one colour for all others, it may come again sooner.
        self.spotted = recoloured(carpet, [int(other == colour) for other in range(len(FIGURES))])
        self.again = self.spotted.least().order((0, 1))
        self._spots = [[x for x, sign in enumerate(row) if sign == "1"] for row in self.spotted.rows]
        self._ahead = [[row[:x].count("1") for x in range(len(row))] for row in self.spotted.rows]

    def first_rows(self, y0, y1):
        """The list of the y from y0 on below y1 up to where the rows come again."""
        return list(range(y0, min(int(y1), y0 + self.again)))

    def rows_of(self, region):
        """The list of the pairs (y, stretches) of the rows of a finite region, of each slab the first ones."""
        return [(y, xs) for y0, y1, xs in region.slabs() for y in self.first_rows(y0, y1)]

    def many(self, y, xs):
        """How many spots the stretches of a row have, None if there is no end of them."""
        if not self._spots[self._row_index(y)]:
            return 0
        if any([None in stretch for stretch in xs]):
            return None
        return sum([self.spots_from(y, x0, x1) for x0, x1 in xs])

    def spots_from(self, y, low, high):
        """How many spots of a row have an x from low on below high."""
        return self._spots_up_to(y, high) - self._spots_up_to(y, low)

    def nth_from(self, y, low, n):
        """The x of the spot number n, from 0, of a row that has spots, counted from low on."""
        spots = self._spots[self._row_index(y)]
        number = self._spots_up_to(y, low) + n
        rounds = number // len(spots)
        return self._slip(y) + rounds * self.spotted.a + spots[number - rounds * len(spots)]

    def _row_index(self, y):
        """The index of the row that tells the row y."""
        return y % self.spotted.d

    def _slip(self, y):
        """By how much the told row is shifted in the row y."""
        return y // self.spotted.d * self.spotted.b

    def _spots_up_to(self, y, x):
        """How many spots more are ahead of (x, y) in its row than ahead of where the shifted row begins."""
        index = self._row_index(y)
        along = x - self._slip(y)
        rounds = along // self.spotted.a
        return rounds * len(self._spots[index]) + self._ahead[index][along - rounds * self.spotted.a]


def count_of(carpet, region, colour):
    """How many cells of the region have the colour, None if there is no end of them."""
    require_counted(carpet, region, colour)
    rows = ColourRows(carpet, colour)
    counts = [slab_count(rows, slab) for slab in region.slabs()]
    return None if None in counts else sum(counts)


def counts_of(carpet, region):
    """The list of the counts of the ten colours."""
    return [count_of(carpet, region, colour) for colour in range(len(FIGURES))]


def richest_row(carpet, region, colour):
    """The pair (count, y) of the least row in which the region has the most cells of the colour, or (0, None)."""
    require_finite_counted(carpet, region, colour)
    rows = ColourRows(carpet, colour)
    best = (0, None)
    for y, xs in rows.rows_of(region):
        many = rows.many(y, xs)
        if many > best[0]:
            best = (many, y)
    return best


def longest_run(carpet, region, colour):
    """The pair (length, cell) of the first of the longest runs of the colour in the region, or (0, None)."""
    require_finite_counted(carpet, region, colour)
    rows = ColourRows(carpet, colour)
    best = (0, None)
    for y, xs in rows.rows_of(region):
        for x0, x1 in xs:
            # A stretch that is not longer has no longer run.
            if x1 - x0 > best[0]:
                length, x = _longest_in(rows.spotted, y, x0, x1)
                best = (length, (x, y)) if length > best[0] else best
    return best


def row_count(carpet, region, colour, y):
    """How many cells of the colour the region has in one row, None if there is no end of them."""
    require_counted(carpet, region, colour)
    xs = row_at(region, y)
    return ColourRows(carpet, colour).many(y, xs)


def require_counted(carpet, region, colour):
    """Raise an error unless these are a Carpet, a Region, a colour."""
    require_carpet(carpet)
    require_region(region)
    require_colour(colour)


def require_finite_counted(carpet, region, colour):
    """Likewise, and NotSo unless the region has an end."""
    require_counted(carpet, region, colour)
    require_finite(region)


def slab_count(rows, slab):
    """How many spots of a ColourRows a slab has, None if there is no end of them."""
    y0, y1, xs = slab
    if y0 is None or y1 is None:
        # Each row comes again without end, so there is no end of the spots of any row that has some.
        spotless = [rows.many(y, xs) == 0 for y in range(rows.again)]
        return 0 if all(spotless) else None
    counts = [(rows.many(y, xs), (y1 - 1 - y) // rows.again + 1) for y in rows.first_rows(y0, y1)]
    if any([many is None for many, _ in counts]):
        return None
    return sum([many * times for many, times in counts])


def _longest_in(spotted, y, x0, x1):
    """The pair (length, x) of the first of the longest runs of the colour 1 in a stretch of a row."""
    # A run behind as many cells as come again is like one ahead of it, or a part of one that is cut off at x0.
    text = row_text(spotted, (x0, y), min(int(x1 - x0), 2 * spotted.a))
    if "0" not in text:
        return (x1 - x0, x0)
    length = max([len(run) for run in text.split("0")])
    return (length, x0 + text.find("1" * length))
