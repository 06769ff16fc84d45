"""Sieves, and what they leave."""

import itertools

from endlessplane.sieves import Sieve
from endlessplane.stretches import Spread, Stretch
from endlessplane.errors import BadIndex, BadPart
from tests.helpers import GREAT, NO_INTEGERS, NO_SIEVES, Everything, PlaneCase, Touchy

LONG = 10 ** 30
ROWS = [[], [2], [9], [2, 3], [3, 2], [2, 2], [4, 3, 2], [5, 5, 5], [2, 3, 2], [7, 2, 3], [2, 2, 2, 2, 2], [9, 8, 2, 3],
        [3, 3, 2, 2], [6, 5, 4, 3, 2], [2, 3, 4, 5, 6]]


def left_by_hand(ks, high):
    """What a sieve leaves of the integers from 0 on below a high end, struck one by one."""
    left = list(range(high))
    for k in ks:
        left = [number for place, number in enumerate(left, 1) if place % k != 0]
    return left


class SieveTest(PlaneCase):
    def test_struck_one_by_one(self):
        for ks in ROWS + [list(ks) for ks in itertools.product((2, 3, 5), repeat=3)]:
            sieve, left = Sieve(ks), left_by_hand(ks, 400)
            places = {x: place for place, x in enumerate(left)}
            for x in range(-6, 399):
                self.same(sieve.is_left(x), x in places)
                self.same(sieve.place_of(x), places.get(x))
                self.same(sieve.left_below(x), len([number for number in left if number < x]))
            for n, number in enumerate(left):
                self.same(sieve.nth_left(n), number)
            for x in range(-3, left[-1] + 1):
                self.same(sieve.next_left(x), min(number for number in left if number >= x))

    def test_products(self):
        for ks in ROWS:
            sieve, product, many = Sieve(ks), 1, 1
            for k in ks:
                product, many = product * k, many * (k - 1)
            self.same((sieve.product(), sieve.many()), (product, many))
            if product < 10 ** 4:
                self.same(len(left_by_hand(ks, product)), many)
                for x in list(range(0, 60)) + [product - 1, product, LONG]:
                    self.same(sieve.is_left(x), sieve.is_left(x + product))
                    self.same(sieve.is_left(x), sieve.is_left(x + product * LONG))

    def test_example(self):
        sieve = Sieve([2, 3])
        self.same([sieve.nth_left(n) for n in range(5)], [0, 2, 6, 8, 12])
        self.same((sieve.nth_left(2), sieve.left_below(7), sieve.product(), sieve.many()), (6, 3, 6, 2))

    def test_without_numbers(self):
        sieve = Sieve([])
        self.same((sieve.product(), sieve.many(), sieve.ks), (1, 1, ()))
        for x in (0, 1, 17, GREAT):
            self.same((sieve.is_left(x), sieve.place_of(x), sieve.nth_left(x), sieve.left_below(x), sieve.next_left(x)),
                      (True, x, x, x, x))
        for x in (-1, -GREAT):
            self.same((sieve.is_left(x), sieve.place_of(x), sieve.left_below(x), sieve.next_left(x)),
                      (False, None, 0, 0))

    def test_great_numbers(self):
        for ks in ROWS:
            sieve = Sieve(ks)
            at = sieve.product() * LONG
            self.same(sieve.nth_left(sieve.many() * LONG), at)
            self.same(sieve.left_below(at), sieve.many() * LONG)
            self.same(sieve.place_of(at), sieve.many() * LONG)
            for more in range(0, 50, 7):
                self.same(sieve.next_left(at + more) - at, sieve.next_left(more))
                self.same(sieve.nth_left(sieve.many() * LONG + more) - at, sieve.nth_left(more))
            self.same(sieve.next_left(-GREAT), 0)

    def test_left_in(self):
        for ks in ROWS:
            sieve, left = Sieve(ks), left_by_hand(ks, 300)
            for low, high in itertools.product([None, -9, -1, 0, 1, 7, 60], [-8, 0, 1, 2, 8, 100, 299]):
                if low is None or low < high:
                    wanted = len([x for x in left if (low is None or low <= x) and x < high])
                    self.same(sieve.left_in(Stretch(low, high)), wanted)
            for low in (None, -5, 0, GREAT):
                self.same(sieve.left_in(Stretch(low)), None)
            self.same(sieve.left_in(stretch=Stretch(-GREAT, sieve.product() * LONG)), sieve.many() * LONG)

    def test_equal(self):
        for one, other in itertools.product(ROWS, repeat=2):
            self.same(Sieve(one) == Sieve(tuple(other)), one == other)
        self.unlike_all(Sieve([2]))
        self.same(Sieve([2]) == Everything(), False)
        self.no_iteration(Sieve([2]))

    def test_leaves_alike(self):
        rows = ROWS + [[5, 4, 3, 2], [3], [4], [3, 2, 2], [2, 2, 3], [2, 3, 3]]
        alike = 0
        for one, other in itertools.product(rows, repeat=2):
            sieve, high = Sieve(one), 2 * Sieve(one).product() * Sieve(other).product()
            if high < 50000:
                wanted = left_by_hand(one, high) == left_by_hand(other, high)
                self.same(sieve.leaves_alike(Sieve(other)), wanted)
                alike += wanted and one != other
        self.assertGreater(alike, 3)
        self.same(Sieve([4, 3, 2]).leaves_alike(other=Sieve([2, 2])), True)
        self.same(Sieve([9, 8, 7, 6, 5]).leaves_alike(Sieve([9, 8, 7, 6, 5])), True)
        self.same(Sieve([9, 9, 9, 9, 9]).leaves_alike(Sieve([9, 9, 9, 9, 8])), False)
        self.same(Sieve([]).leaves_alike(Sieve([9])), False)
        # Those that leave the multiples of 8 alone.
        self.same(Sieve([2, 2, 2]).leaves_alike(Sieve([4, 3, 2, 2])), True)

    def test_wrong_arguments(self):
        for value in [None, True, 5, "23", {}, {2: 3}, (2,) * 6, [2] * 6, [0] * 6, Spread()]:
            self.bears(BadPart, "part", "sieve", Sieve, value)
            self.bears(BadPart, "part", "sieve", Sieve, ks=value)
        for value in NO_INTEGERS + [1, 0, -2, 10, GREAT]:
            for ahead in range(5):
                ks = [2, 9, 3, 4, 5][:ahead] + [value] + [None] * (4 - ahead)
                self.bears(BadIndex, "index", ahead, Sieve, ks)
                self.bears(BadIndex, "index", ahead, Sieve, tuple(ks))
        sieve = Sieve(ks=(2, 3))
        self.same(sieve.ks, (2, 3))
        self.refuses(sieve.nth_left, {"n": 0})
        for function in (sieve.place_of, sieve.left_below, sieve.next_left):
            self.refuses(function, {"x": 0}, {"x": "y"})
        for value in (None, True, 5, (0, 5), [0, 5], range(5), Spread(), Everything()):
            self.bears(BadPart, "part", "stretch", sieve.left_in, value)
            self.bears(BadPart, "part", "stretch", sieve.left_in, stretch=value)
        for value in NO_SIEVES:
            self.bears(BadPart, "part", "sieve", sieve.leaves_alike, value)
            self.bears(BadPart, "part", "sieve", sieve.leaves_alike, other=value)
        for value in NO_INTEGERS + [Everything(), Touchy(), (0,), 0.0]:
            self.same(sieve.is_left(value), False)
            self.same(sieve.is_left(value=value), False)
        ks = [2, 3]
        sieve = Sieve(ks)
        ks[0] = 9
        self.same(sieve.ks, (2, 3))
