"""Stretches of integers, and spreads, which some stretches have together."""

from endlessplane.basics import is_row, is_span, is_whole, require_from, require_whole
from endlessplane.errors import BadIndex, BadPart


class Stretch:
    """All integers from low on and below high; an end that is None is missing."""

    def __init__(self, low=None, high=None):
        if not is_span(low, high):
            raise BadPart("stretch")
        self.low = low
        self.high = high

    def __eq__(self, other):
        return isinstance(other, Stretch) and self.low == other.low and self.high == other.high

    def __le__(self, other):
        if not isinstance(other, Stretch):
            return False
        if other.low is not None and (self.low is None or self.low < other.low):
            return False
        return other.high is None or (self.high is not None and self.high <= other.high)

    def holds(self, number):
        """Whether any value is one of its integers."""
        if not is_whole(number):
            return False
        return (self.low is None or self.low <= number) and (self.high is None or number < self.high)

    def moved(self, by):
        """The stretch of all its integers, each so much greater."""
        require_whole(by)
        low = None if self.low is None else self.low + by
        high = None if self.high is None else self.high + by
        return Stretch(low, high)

    def turned(self):
        """The stretch of all -i for its integers i."""
        # The greatest integer is high - 1, so the least one behind the turn is 1 - high.
        low = None if self.high is None else 1 - self.high
        high = None if self.low is None else 1 - self.low
        return Stretch(low, high)

    def common(self, other):
        """The stretch of the integers of both, or None."""
        if not isinstance(other, Stretch):
            raise BadPart("stretch")
        low = _greater_low(self.low, other.low)
        high = _lesser_high(self.high, other.high)
        return Stretch(low, high) if is_span(low, high) else None

    def count(self, r=0, p=1):
        """How many members it has, None if there is no end of them."""
        _require_remainder(r, p)
        if self.low is None or self.high is None:
            return None
        least = self.first(r, p)
        return 0 if least is None else (self.high - 1 - least) // p + 1

    def first(self, r=0, p=1):
        """The least member, or None."""
        _require_remainder(r, p)
        if self.low is None:
            return None
        least = self.low + (r - self.low) % p
        return least if self.holds(least) else None

    def final(self, r=0, p=1):
        """The greatest member, or None."""
        _require_remainder(r, p)
        least = self.turned().first(-r, p)
        return None if least is None else -least

    def nth(self, n, r=0, p=1):
        """The member with n members below it, or None."""
        require_from(n, 0)
        least = self.first(r, p)
        if least is None or not self.holds(least + n * p):
            return None
        return least + n * p

    def below(self, number, r=0, p=1):
        """How many members are below a number, None if there is no end of them."""
        require_whole(number)
        _require_remainder(r, p)
        ahead = self.common(Stretch(None, number))
        return 0 if ahead is None else ahead.count(r, p)


class Spread:
    """A set of integers, kept as the told row of its stretches."""

    def __init__(self, stretches=()):
        if not is_row(stretches):
            raise BadPart("stretches")
        for index, item in enumerate(stretches):
            if not isinstance(item, Stretch):
                raise BadIndex(index)
        self._row = _told_row(stretches)

    def __eq__(self, other):
        return isinstance(other, Spread) and self._row == other._row

    def __le__(self, other):
        return isinstance(other, Spread) and (self | other) == other

    def __or__(self, other):
        if not isinstance(other, Spread):
            raise TypeError("a Spread is put together with a Spread only")
        return Spread(self._row + other._row)

    def __and__(self, other):
        if not isinstance(other, Spread):
            raise TypeError("a Spread is put together with a Spread only")
        return (self.all_but() | other.all_but()).all_but()

    def __sub__(self, other):
        return (self.all_but() | other).all_but()

    def told(self):
        """The list of the told row."""
        return list(self._row)

    def all_but(self):
        """The spread of all integers but its own."""
        if not self._row:
            return Spread([Stretch()])
        gaps = [Stretch(one.high, other.low) for one, other in zip(self._row, self._row[1:])]
        low, high = self.bounds()
        if low is not None:
            gaps.append(Stretch(None, low))
        if high is not None:
            gaps.append(Stretch(high, None))
        return Spread(gaps)

    def holds(self, number):
        """Whether any value is one of its integers."""
        return any([stretch.holds(number) for stretch in self._row])

    def moved(self, by):
        """The spread of all its integers, each so much greater."""
        require_whole(by)
        return Spread([stretch.moved(by) for stretch in self._row])

    def turned(self):
        """The spread of all -i for its integers i."""
        return Spread([stretch.turned() for stretch in self._row])

    def is_endless(self):
        """Whether there is no end of its integers."""
        return any([stretch.low is None or stretch.high is None for stretch in self._row])

    def bounds(self):
        """The pair of its least integer and the one above its greatest, each None if there is none."""
        return (self._row[0].low, self._row[-1].high) if self._row else (None, None)

    def count(self, r=0, p=1):
        """How many members it has, None if there is no end of them."""
        _require_remainder(r, p)
        if self.is_endless():
            return None
        return sum([stretch.count(r, p) for stretch in self._row])

    def first(self, r=0, p=1):
        """The least member, or None."""
        return self.nth(0, r, p)

    def final(self, r=0, p=1):
        """The greatest member, or None."""
        _require_remainder(r, p)
        least = self.turned().first(-r, p)
        return None if least is None else -least

    def nth(self, n, r=0, p=1):
        """The member with n members below it, or None."""
        require_from(n, 0)
        _require_remainder(r, p)
        ahead = 0
        for stretch in self._row:
            # Without end on either side: the n-th member is here, or there is none, as there is no least one.
            many = stretch.count(r, p)
            if many is None or n < ahead + many:
                return stretch.nth(n - ahead, r, p)
            ahead = ahead + many
        return None

    def below(self, number, r=0, p=1):
        """How many members are below a number, None if there is no end of them."""
        require_whole(number)
        _require_remainder(r, p)
        if self._row and self._row[0].low is None:
            return None
        return sum([stretch.below(number, r, p) for stretch in self._row])


def _require_remainder(r, p):
    """Raise BadNumber for the first one that does not fit of a remainder."""
    require_whole(r)
    require_from(p, 1)


def _greater_low(one, other):
    """The greater of two low ends, of which None is below all."""
    if one is None or other is None:
        return other if one is None else one
    return one if one > other else other


def _lesser_high(one, other):
    """The lesser of two high ends, of which None is above all."""
    if one is None or other is None:
        return other if one is None else one
    return one if one < other else other


def _greater_high(one, other):
    """The greater of two high ends, of which None is above all."""
    if one is None or other is None:
        return None
    return one if one > other else other


def _told_row(stretches):
    """The tuple of stretches of the told row of what these have together."""
    row = []
    for low, high in _pairs_by_low(stretches):
        # No integer lies between two stretches that touch, so they are one.
        if row and (row[-1][1] is None or low <= row[-1][1]):
            begun, end = row.pop()
            row.append((begun, _greater_high(end, high)))
        else:
            row.append((low, high))
    return tuple([Stretch(low, high) for low, high in row])


def _pairs_by_low(stretches):
    """The ascending list of pairs (low, high) that have the same integers, no two with one low."""
    tops = {}
    for stretch in stretches:
        low = stretch.low
        tops[low] = _greater_high(tops[low], stretch.high) if low in tops else stretch.high
    lows = sorted([int(low) for low in tops if low is not None])
    pairs = [(None, tops[None])] if None in tops else []
    return pairs + [(low, tops[low]) for low in lows]
