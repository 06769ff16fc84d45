"""Lattices of shifts."""

from endlessplane.basics import is_from, is_pair, is_whole, require_pair
from endlessplane.errors import BadPart, NotSo
from endlessplane.lines import both_remainders, greatest_divisor, least_multiple, weighed_divisor


def is_shift(value):
    """Whether any value is a shift."""
    return is_pair(value)


class Lattice:
    """The shifts that are sums of multiples of (a, 0) and (b, d)."""

    def __init__(self, a, b, d):
        require_lattice_numbers(a, b, d)
        self.a = a
        self.b = b
        self.d = d

    def __eq__(self, other):
        return isinstance(other, Lattice) and self.a == other.a and self.b == other.b and self.d == other.d

    def __le__(self, other):
        return isinstance(other, Lattice) and (self.a, 0) in other and (self.b, self.d) in other

    def __contains__(self, shift):
        # A shift is held just if it leads the cell (0, 0) to a cell of the same place.
        return is_shift(shift) and self.place(shift) == (0, 0)

    def area(self):
        """How many places it has."""
        return self.a * self.d

    def place(self, cell):
        """The place to which a shift of the lattice leads the cell."""
        require_pair(cell, "cell")
        x, y = cell
        up = y // self.d
        return ((x - self.b * up) % self.a, y - self.d * up)

    def order(self, shift):
        """The least n of 1 or more such that n times the shift is held."""
        require_pair(shift, "shift")
        x, y = shift
        # First y alone must fit, then what is left of x beside the multiples of (b, d).
        times = self.d // greatest_divisor(self.d, y)
        rest = x * times - self.b * (y * times // self.d)
        return times * (self.a // greatest_divisor(self.a, rest))

    def places(self):
        """The list of all places, by y, then x."""
        return [(x, y) for y in range(self.d) for x in range(self.a)]


def require_lattice_numbers(a, b, d):
    """Raise BadPart for the first one that does not fit of the numbers of a lattice."""
    if not is_from(a, 1):
        raise BadPart("a")
    if not is_whole(b) or not 0 <= b < a:
        raise BadPart("b")
    if not is_from(d, 1):
        raise BadPart("d")


def require_lattice(value):
    """Raise BadPart unless the value is a Lattice."""
    if not isinstance(value, Lattice):
        raise BadPart("lattice")


def spanned(one, other):
    """The Lattice that two shifts span."""
    require_pair(one, "shift")
    require_pair(other, "shift")
    area = abs(one[0] * other[1] - other[0] * one[1])
    if area == 0:
        raise NotSo("parallel")
    d, u, v = weighed_divisor(one[1], other[1])
    a = area // d
    return Lattice(a, (u * one[0] + v * other[0]) % a, d)


def common_lattice(one, other):
    """The Lattice of the shifts that both hold."""
    require_lattice(one)
    require_lattice(other)
    level = least_multiple(one.d, other.d)
    one_x = level // one.d * one.b
    other_x = level // other.d * other.b
    # Shifts with y = level are common ones only if both x agree modulo what divides both a.
    divisor = greatest_divisor(one.a, other.a)
    times = divisor // greatest_divisor(divisor, one_x - other_x)
    b, a = both_remainders((times * one_x, one.a), (times * other_x, other.a))
    return Lattice(a, b, times * level)


def joined_lattice(one, other):
    """The Lattice of the sums of what both hold."""
    require_lattice(one)
    require_lattice(other)
    d, u, v = weighed_divisor(one.d, other.d)
    # Of (b, d) of both, so many times that y is the same, the difference has y = 0.
    slip = other.d // d * one.b - one.d // d * other.b
    a = greatest_divisor(greatest_divisor(one.a, other.a), slip)
    return Lattice(a, (u * one.b + v * other.b) % a, d)
