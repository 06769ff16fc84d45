"""Lines a + b i and ways of steps: for which integers i they are where."""

from endlessplane.basics import is_box, is_from, is_whole, require_from, require_pair, require_whole
from endlessplane.errors import BadPart
from endlessplane.stretches import Stretch


def greatest_divisor(one, other):
    """The greatest common divisor, 0 or more."""
    require_whole(one)
    require_whole(other)
    return weighed_divisor(one, other)[0]


def least_multiple(one, other):
    """The least common multiple of two integers of 1 or more."""
    require_from(one, 1)
    require_from(other, 1)
    return one // greatest_divisor(one, other) * other


def weighed_divisor(one, other):
    """The greatest common divisor, and u and v with u * one + v * other equal to it."""
    divisor, u, v = one, 1, 0
    rest, next_u, next_v = other, 0, 1
    while rest != 0:
        times = divisor // rest
        divisor, rest = rest, divisor - times * rest
        u, next_u = next_u, u - times * next_u
        v, next_v = next_v, v - times * next_v
    return (divisor, u, v) if divisor >= 0 else (-divisor, -u, -v)


def in_stretch(a, b, stretch):
    """The Stretch of the i with a + b i in the stretch, or None."""
    require_whole(a)
    require_whole(b)
    if not isinstance(stretch, Stretch):
        raise BadPart("stretch")
    if b == 0:
        return Stretch() if stretch.holds(a) else None
    if b < 0:
        turned = in_stretch(a, -b, stretch)
        return None if turned is None else turned.turned()
    # From low on: i is at least (low - a) / b, rounded up; likewise for high.
    low = None if stretch.low is None else -((a - stretch.low) // b)
    high = None if stretch.high is None else -((a - stretch.high) // b)
    if low is not None and high is not None and low >= high:
        return None
    return Stretch(low, high)


def in_box(cell, step, box):
    """The Stretch of the i at which the way of steps is in the box, or None."""
    require_pair(cell, "cell")
    require_pair(step, "step")
    if not is_box(box):
        raise BadPart("box")
    x0, x1, y0, y1 = box
    return _in_both(cell, step, Stretch(x0, x1), Stretch(y0, y1))


def on_number(a, b, number):
    """The Stretch of the i with a + b i equal to the number, or None."""
    require_whole(a)
    require_whole(b)
    require_whole(number)
    return in_stretch(a, b, Stretch(number, number + 1))


def on_cell(cell, step, goal):
    """The Stretch of the i at which the way of steps is on the goal, or None."""
    require_pair(cell, "cell")
    require_pair(step, "step")
    require_pair(goal, "cell")
    x, y = goal
    return _in_both(cell, step, Stretch(x, x + 1), Stretch(y, y + 1))


def _in_both(cell, step, columns, rows):
    """The Stretch of the i at which the way of steps is in these columns and in these rows, or None."""
    across = in_stretch(cell[0], step[0], columns)
    along = in_stretch(cell[1], step[1], rows)
    return None if across is None or along is None else across.common(along)


def remainder_of(a, b, r, p):
    """The remainder (s, q) of the i for which a + b i is r modulo p, or None."""
    require_whole(a)
    require_whole(b)
    require_whole(r)
    require_from(p, 1)
    divisor, u, _ = weighed_divisor(b, p)
    if (r - a) % divisor != 0:
        return None
    # u b is the divisor modulo p, so u undoes b modulo p // divisor.
    q = p // divisor
    return ((r - a) // divisor * u % q, q)


def both_remainders(one, other):
    """The remainder (s, q) of the integers of both remainders (r, p), or None."""
    _require_remainder(one)
    _require_remainder(other)
    r, p = one
    times = remainder_of(r, p, other[0], other[1])
    if times is None:
        return None
    s, q = times
    return ((r + p * s) % (p * q), p * q)


def _require_remainder(value):
    """Raise BadPart unless the value is a remainder (r, p)."""
    if not isinstance(value, tuple) or len(value) != 2 or not is_whole(value[0]) or not is_from(value[1], 1):
        raise BadPart("remainder")
