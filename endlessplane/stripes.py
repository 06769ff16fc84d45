"""How many cells of a colour are on the stripes of a sieve, and which one is the n-th."""

from endlessplane.basics import least_that, require_colour, require_from
from endlessplane.carpets import FIGURES, require_carpet, row_text
from endlessplane.cuts import require_finite
from endlessplane.errors import TooMany
from endlessplane.regions import Region, require_region
from endlessplane.sieves import require_sieve

GREATEST_STRIPE = 20000


class StripedColumns:
    """The columns that a sieve leaves, by what they leave by the a of the normal form of a carpet: their kinds."""

    def __init__(self, carpet, sieve):
        self._carpet = carpet
        self._wide = carpet.least().a
        self._stripe = self._wide * sieve.product()
        self._again = carpet.least().order((0, 1))
        self._kinds = [[] for _ in range(self._wide)]
        for n in range(self._wide * sieve.many()):
            x = sieve.nth_left(n)
            self._kinds[x % self._wide].append(x)

    def slab_counts(self, slab):
        """The list of how many cells of each colour a slab without x below 0 has, None if there is no end of them."""
        y0, y1, xs = slab
        many = [self._many(kind, xs) for kind in self._kinds]
        counts = [0] * len(FIGURES)
        for y in self._first_rows(slab):
            # A slab without end has each row again and again.
            times = None if y0 is None or y1 is None else (y1 - 1 - y) // self._again + 1
            for figure, number in zip(self._figures_of(y), many):
                counts[int(figure)] = _with_more(counts[int(figure)], number, times)
        return counts

    def nth_cell(self, slab, colour, n):
        """The cell number n of the colour in a finite slab, which has more than n of them."""
        rows = self._first_rows(slab)
        counts = [self._many_in_row(y, slab[2], colour) for y in rows]
        times = n // sum(counts)
        left = n - times * sum(counts)
        for y, many in zip(rows, counts):
            if left < many:
                return (self._nth_column(y, slab[2], colour, left), y + times * self._again)
            left = left - many

    def _first_rows(self, slab):
        """The list of the y of a slab up to where the rows come again, from 0 on if there is no end of them."""
        y0, y1, _ = slab
        if y0 is None or y1 is None:
            return list(range(self._again))
        return list(range(y0, min(int(y1), y0 + self._again)))

    def _figures_of(self, y):
        """The figures of the colours of a row, from x = 0 on below the a."""
        return row_text(self._carpet, (0, y), self._wide)

    def _many(self, kind, xs):
        """How many columns of a kind some stretches from 0 on have, None if there is no end of them."""
        if not kind:
            return 0
        if any([None in stretch for stretch in xs]):
            return None
        return sum([self._below(kind, x1) - self._below(kind, x0) for x0, x1 in xs])

    def _below(self, kind, x):
        """How many columns of a kind there are from 0 on below x."""
        rounds = x // self._stripe
        rest = x - rounds * self._stripe
        return rounds * len(kind) + least_that(0, len(kind), lambda index: kind[index] >= rest)

    def _many_in_row(self, y, xs, colour):
        """How many cells of the colour stretches with ends have in a row."""
        return sum([self._many(kind, xs) for kind in self._kinds_of(y, colour)])

    def _kinds_of(self, y, colour):
        """The list of the kinds of columns that have the colour in a row."""
        return [kind for figure, kind in zip(self._figures_of(y), self._kinds) if int(figure) == colour]

    def _nth_column(self, y, xs, colour, n):
        """The x number n of the cells of the colour in the stretches of a row, which have more than n of them."""
        kinds = self._kinds_of(y, colour)
        for x0, x1 in xs:
            ahead = sum([self._below(kind, x0) for kind in kinds])
            many = sum([self._below(kind, x1) for kind in kinds]) - ahead
            if n < many:
                return least_that(x0, x1, lambda x: sum([self._below(kind, x + 1) for kind in kinds]) - ahead > n)
            n = n - many


def stripe_of(carpet, sieve):
    """By how many columns the stripes and the colours of a carpet come again."""
    require_carpet(carpet)
    require_sieve(sieve)
    return sieve.product() * carpet.least().a


def striped_counts(carpet, sieve, region):
    """The list, by colours, of how many cells of a region are on the stripes, None if there is no end of them."""
    _require_narrow(carpet, sieve)
    require_region(region)
    columns = StripedColumns(carpet, sieve)
    rows = [columns.slab_counts(slab) for slab in _slabs_from_0(region)]
    by_colour = [[row[colour] for row in rows] for colour in range(len(FIGURES))]
    return [None if None in counts else sum(counts) for counts in by_colour]


def striped_count(carpet, sieve, region, colour):
    """How many cells of a colour in a region are on the stripes, None if there is no end of them."""
    counts = striped_counts(carpet, sieve, region)
    require_colour(colour)
    return counts[colour]


def nth_striped(carpet, sieve, region, colour, n):
    """The cell number n, from 0, of the colour in a finite region that is on the stripes, by y, then x, or None."""
    _require_narrow(carpet, sieve)
    require_region(region)
    require_colour(colour)
    require_finite(region)
    require_from(n, 0)
    columns = StripedColumns(carpet, sieve)
    for slab in _slabs_from_0(region):
        many = columns.slab_counts(slab)[colour]
        if n < many:
            return columns.nth_cell(slab, colour, n)
        n = n - many
    return None


def _require_narrow(carpet, sieve):
    """Raise an error unless these are a Carpet and a Sieve with a stripe that is not too great."""
    if stripe_of(carpet, sieve) > GREATEST_STRIPE:
        raise TooMany(GREATEST_STRIPE)


def _slabs_from_0(region):
    """The slabs of what of a region has no x below 0, where nothing is left."""
    return (region & Region([(0, None, None, None)])).slabs()


def _with_more(total, number, times):
    """A total with so many more so many times, None if there is no end of them."""
    # Of one slab there is no end of all columns that it has, or of all rows, or all have an end.
    if number == 0:
        return total
    return None if number is None or times is None else total + number * times
