"""Trails: the unlike cells to which a walk of one part comes, told by strands."""

from endlessplane.basics import cell_along, in_order, is_pair, least_that, require_colour, require_from, require_pair
from endlessplane.errors import BadNumber
from endlessplane.floors import require_ground, shown_parts
from endlessplane.regions import Region, require_region
from endlessplane.stands import many_on, visits
from endlessplane.stretches import Spread, Stretch
from endlessplane.walks import Walk, offsets_of, require_word


class Trail:
    """The cells on which the walk stands that does a word so many times from a cell."""

    def __init__(self, cell, word, times):
        require_pair(cell, "cell")
        require_word(word)
        require_from(times, 0)
        offsets = offsets_of(word)
        self._walk = Walk(cell, [(word, times)])
        # If the word is not done, or leads nowhere, each cell is a strand of its own.
        self._shift = (0, 0) if times == 0 else offsets[-1]
        self._places = _places_on_strands(cell, offsets, self._shift)

    def __contains__(self, value):
        return is_pair(value) and self.visits_of(value) > 0

    def strands(self):
        """The list of the pairs (cell, stretches) of the strands, by y, then x, of their cells."""
        spans = self._spans_up_to(self._walk.end())
        return [(cell, _stretches_of(spans[cell])) for cell in in_order(list(spans))]

    def many_cells(self):
        """How many cells it has."""
        return self.fresh_up_to(self._walk.end())

    def cells_in(self, region):
        """How many of its cells are in a region."""
        require_region(region)
        return self._many_cells_on([(region, None)], None)

    def cells_on(self, ground, colour, *, region=None):
        """How many of its cells, of those in the region if it is told, have this colour on a Carpet or Floor."""
        require_ground(ground)
        require_colour(colour)
        if region is not None:
            require_region(region)
        return self._many_cells_on(shown_parts(ground, ~Region() if region is None else region), colour)

    def visits_of(self, cell):
        """How many visits a cell has."""
        return visits(self._walk, cell)

    def visited(self):
        """The dict from the numbers of visits that cells have, ascending, to how many cells have just so many."""
        many = {}
        for spans in self._spans_up_to(self._walk.end()).values():
            for number, cells in _cells_by_visits(spans):
                many[number] = many.get(number, 0) + cells
        return {number: many[number] for number in sorted([int(told) for told in many])}

    def fresh_up_to(self, moment):
        """How many moments up to this one, with it, are the first ones of their cells."""
        require_from(moment, 0)
        if moment > self._walk.end():
            raise BadNumber(moment)
        rows = [_stretches_of(spans) for spans in self._spans_up_to(moment).values()]
        return sum([high - low for row in rows for low, high in row])

    def nth_fresh(self, n):
        """The fresh moment number n, from 0, or None."""
        require_from(n, 0)
        if n >= self.many_cells():
            return None
        return least_that(0, self._walk.end(), lambda moment: self.fresh_up_to(moment) > n)

    def _spans_up_to(self, moment):
        """The dict from the cells of strands to lists of spans: what each step has of them up to a moment.

        A span (low, high, often) has the cells with the numbers from low on below high, each so often.
        """
        many = len(self._places) - 1
        rounds, step = moment // many, moment % many
        spans = {}
        for index, (cell, number) in enumerate(self._places):
            # The first place is that of moment 0 alone; of the others those up to this step have one round more.
            often = 1 if index == 0 else rounds + int(index <= step)
            if often > 0:
                span = (0, 1, often) if self._shift == (0, 0) else (number, number + often, 1)
                spans.setdefault(cell, []).append(span)
        return spans

    def _many_cells_on(self, places, colour):
        """How many cells of the strands are on the colour at places, a list of pairs (region, carpet)."""
        ways = [((cell, self._shift), Stretch(low, high)) for cell, row in self.strands() for low, high in row]
        return sum([many_on(way, numbers, places, colour) for way, numbers in ways])


def _places_on_strands(cell, offsets, shift):
    """For each offset the pair of the cell of its strand, and of how many shifts it lies behind this one."""
    told = [_told_by_shift(offset, shift) for offset in offsets]
    firsts = {}
    for base, times in told:
        firsts[base] = min(int(times), firsts.get(base, times))
    return [(cell_along(cell_along(cell, base, 1), shift, firsts[base]), times - firsts[base]) for base, times in told]


def _told_by_shift(offset, shift):
    """The pair of a cell, the same for all offsets that differ by multiples of the shift, and the times from it on."""
    if shift == (0, 0):
        return (offset, 0)
    times = offset[1] // shift[1] if shift[0] == 0 else offset[0] // shift[0]
    return (cell_along(offset, shift, -times), times)


def _stretches_of(spans):
    """The list of the pairs (from, to) of the numbers that some spans have together."""
    told = Spread([Stretch(low, high) for low, high, _ in spans]).told()
    return [(stretch.low, stretch.high) for stretch in told]


def _cells_by_visits(spans):
    """The list of pairs of a number of visits, and of how many neighbouring cells of a strand have so many."""
    ends = sorted([int(end) for low, high, _ in spans for end in (low, high)])
    found = []
    for first, last in zip(ends, ends[1:]):
        often = sum([times for low, high, times in spans if low <= first < high])
        if often > 0:
            found.append((often, last - first))
    return found
