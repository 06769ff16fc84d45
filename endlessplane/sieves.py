"""Sieves, which strike each k-th of the integers from 0 on, again and again, and what they leave."""

from endlessplane.basics import is_row, is_whole, require_from, require_whole
from endlessplane.errors import BadIndex, BadPart
from endlessplane.stretches import Stretch

MOST_STRIKES = 5


class Sieve:
    """Up to five integers k from 2 to 9, by each of which each k-th of what is left is struck."""

    def __init__(self, ks):
        if not is_row(ks) or len(ks) > MOST_STRIKES:
            raise BadPart("sieve")
        for index, item in enumerate(ks):
            if not is_whole(item) or not 2 <= item <= 9:
                raise BadIndex(index)
        self.ks = tuple(ks)

    def __eq__(self, other):
        return isinstance(other, Sieve) and self.ks == other.ks

    def product(self):
        """The product of all k: an integer from 0 on is left just if the one so much greater is."""
        return _product_of(self.ks)

    def many(self):
        """How many are left of the integers from 0 on below the product."""
        return _product_of([k - 1 for k in self.ks])

    def is_left(self, value):
        """Whether any value is an integer that is left."""
        return is_whole(value) and self.place_of(value) is not None

    def nth_left(self, n):
        """The integer left that has the place n."""
        require_from(n, 0)
        for k in self.ks[::-1]:
            n = n + n // (k - 1)
        return n

    def place_of(self, x):
        """The place of an integer, None if it is not left."""
        below = self.left_below(x)
        return below if self.nth_left(below) == x else None

    def left_below(self, x):
        """How many are left below an integer."""
        require_whole(x)
        many = max(0, int(x))
        for k in self.ks:
            many = many - many // k
        return many

    def next_left(self, x):
        """The least one left from an integer on."""
        return self.nth_left(self.left_below(x))

    def left_in(self, stretch):
        """How many are left in a Stretch, None if there is no end of them."""
        if not isinstance(stretch, Stretch):
            raise BadPart("stretch")
        if stretch.high is None:
            return None
        return self.left_below(stretch.high) - self.left_below(0 if stretch.low is None else stretch.low)

    def leaves_alike(self, other):
        """Whether another sieve leaves the same integers."""
        require_sieve(other)
        # The gaps between what is left come again after many, those of the other one after as many as it has.
        # Rows that come again so are the same if they agree for as long as both together.
        return all([self.nth_left(n) == other.nth_left(n) for n in range(self.many() + other.many() + 1)])


def require_sieve(value):
    """Raise BadPart unless the value is a Sieve."""
    if not isinstance(value, Sieve):
        raise BadPart("sieve")


def _product_of(numbers):
    """The product of some numbers, 1 of none."""
    total = 1
    for number in numbers:
        total = total * number
    return total
