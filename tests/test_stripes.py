"""The stripes of sieves on the floor, and the colours on them."""

import itertools

from endlessplane.carpets import Carpet, plain
from endlessplane.counts import counts_of
from endlessplane.cuts import cells_of
from endlessplane.errors import TooMany
from endlessplane.nthcells import nth_of_colour
from endlessplane.regions import Region
from endlessplane.sieves import Sieve
from endlessplane.stripes import nth_striped, stripe_of, striped_count, striped_counts
from tests.helpers import (
    CHESS, COLUMNS, FAR, GREAT, SLANTED, SPARSE, THREE, PlaneCase, some_carpets, some_regions,
)

LONG = 10 ** 30
SIEVES = [Sieve(ks) for ks in ([], [2], [2, 3], [3, 2], [4, 3, 2], [5, 5], [9, 2], [2, 2, 2, 2, 2], [7, 6, 5])]
CARPETS = some_carpets(381, 10, (1, 2, 3, 4, 6), "0012") + [plain(0), CHESS, COLUMNS, Carpet(4, 0, 2, ["0101", "1010"])]


def striped_by_hand(carpet, sieve, region, colour):
    """The cells of a finite region that have the colour and are on the stripes, cell by cell."""
    return [cell for cell in cells_of(region) if sieve.is_left(cell[0]) and carpet.colour(cell) == colour]


class StripesTest(PlaneCase):
    def test_cell_by_cell(self):
        regions = some_regions(382, 10) + [Region(), Region([(-3, 40, -20, 30)]), Region([(1, 2, 0, 9), (7, 90, 5, 6)])]
        for index, (sieve, carpet, region) in enumerate(itertools.product(SIEVES, CARPETS, regions)):
            if index % 5 > 0:
                continue
            counts = striped_counts(carpet, sieve, region)
            for colour in (0, 1, 2, 7):
                wanted = striped_by_hand(carpet, sieve, region, colour)
                self.same(counts[colour], len(wanted))
                self.same(striped_count(carpet, sieve, region, colour), len(wanted))
                for n in {0, 1, 2, len(wanted) // 2, len(wanted) - 1} & set(range(len(wanted))):
                    self.same(nth_striped(carpet, sieve, region, colour, n), wanted[n])
                for n in (len(wanted), len(wanted) + 1, GREAT):
                    self.same(nth_striped(carpet, sieve, region, colour, n), None)
            self.same((len(counts), counts[3:]), (10, [0] * 7))

    def test_each_one(self):
        region = Region([(-4, 9, -3, 4), (3, 30, 2, 9)])
        for sieve, carpet in zip(SIEVES, CARPETS):
            wanted = striped_by_hand(carpet, sieve, region, 0)
            self.same([nth_striped(carpet, sieve, region, 0, n) for n in range(len(wanted) + 1)], wanted + [None])

    def test_stripes(self):
        for sieve, carpet in itertools.product(SIEVES, CARPETS):
            self.same(stripe_of(carpet, sieve), sieve.product() * carpet.normal()[0])
        self.same(stripe_of(sieve=Sieve([9] * 5), carpet=SLANTED), 144 * 9 ** 5)
        # The told a is 4, that of the normal form 2.
        self.same(stripe_of(Carpet(4, 0, 2, ["0101", "1010"]), Sieve([5])), 10)

    def test_all_are_left(self):
        for carpet in CARPETS + [SLANTED, SPARSE]:
            for region in (FAR, THREE):
                east = region & Region([(0, None, None, None)])
                self.same(striped_counts(carpet, Sieve([]), region), counts_of(carpet, east))
                for n in (0, 5, 10 ** 20):
                    self.same(nth_striped(carpet, Sieve([]), region, 0, n), nth_of_colour(carpet, east, 0, n))

    def test_without_end(self):
        sieve = Sieve([2])
        for box, wanted in (
                ((0, None, 0, 1), [None, 0]), ((None, None, 0, 1), [None, 0]), ((None, 5, 0, 1), [3, 0]),
                ((None, 0, None, None), [0, 0]), ((None, 5, None, None), [None, None]),
                ((0, 1, None, None), [None, None]),
                ((1, 2, None, None), [0, 0]), ((0, None, 1, 2), [0, None]), ((None, None, 0, 2), [None, None]),
                ((None, 5, 0, 4), [6, 6]), ((None, None, None, None), [None, None]), ((0, 3, None, 2), [None, None]),
                ((0, 3, 2, None), [None, None]), ((-9, -1, None, 2), [0, 0])):
            found = striped_counts(CHESS, sieve, Region([box]))
            self.same(found, wanted + [0] * 8)
            self.same([striped_count(CHESS, sieve, Region([box]), colour) for colour in (0, 1)], wanted)
        # Of two rows of boxes one has an end, of one colour there is no end in the other one.
        both = Region([(0, 8, 0, 1), (3, None, 5, 6)])
        self.same(striped_counts(CHESS, sieve, both)[:3], [4, None, 0])
        # On columns the odd x are never left.
        self.same(striped_counts(COLUMNS, sieve, ~Region())[:3], [None, 0, 0])
        self.same(striped_counts(COLUMNS, Sieve([3]), ~Region())[:3], [None, None, 0])
        self.same(striped_counts(COLUMNS, sieve, Region([(1, None, 0, 1)]))[:3], [None, 0, 0])

    def test_great_numbers(self):
        sieve = Sieve([2, 3])
        box = Region([(-LONG, 12 * LONG, 0, LONG)])
        self.same(striped_counts(plain(4), sieve, box)[4], 4 * LONG * LONG)
        self.same(striped_counts(COLUMNS, sieve, box)[:2], [4 * LONG * LONG, 0])
        self.same(nth_striped(plain(4), sieve, box, 4, 4 * LONG * 7 + 3), (8, 7))
        self.same(nth_striped(plain(4), sieve, box, 4, 4 * LONG * 7 + 2 * LONG), (6 * LONG, 7))
        self.same(nth_striped(plain(4), sieve, box, 4, 4 * LONG * LONG - 1), (12 * LONG - 4, LONG - 1))
        self.same(nth_striped(plain(4), sieve, box, 4, 4 * LONG * LONG), None)
        for carpet, sieve in ((SLANTED, Sieve([3, 5, 9])), (SPARSE, Sieve([4, 7, 8, 6])), (CHESS, Sieve([9, 9, 9]))):
            counts = striped_counts(carpet, sieve, FAR)
            for colour in (0, 1):
                for n in (0, 7, counts[colour] // 3, counts[colour] - 1):
                    cell = nth_striped(carpet, sieve, FAR, colour, n)
                    self.assertTrue(cell in FAR and sieve.is_left(cell[0]) and carpet.colour(cell) == colour)
                    x, y = cell
                    ahead = FAR & Region([(None, None, None, y), (None, x, y, y + 1)])
                    self.same(striped_count(carpet, sieve, ahead, colour), n)
                self.same(nth_striped(carpet, sieve, FAR, colour, counts[colour]), None)
            self.same(sum(counts), sum(striped_counts(plain(3), sieve, FAR)))

    def test_names(self):
        told = {"region": Region([(0, 9, 0, 2)]), "sieve": Sieve([3]), "carpet": CHESS}
        self.same(striped_counts(**told)[:3], [6, 6, 0])
        self.same(striped_count(colour=1, **told), 6)
        self.same(nth_striped(n=3, colour=1, **told), (0, 1))
        self.same(stripe_of(sieve=Sieve([3]), carpet=CHESS), 6)

    def test_wrong_arguments(self):
        right = {"carpet": CHESS, "sieve": Sieve([2, 3])}
        self.refuses(stripe_of, right)
        self.refuses(striped_counts, {**right, "region": THREE})
        self.refuses(striped_count, {**right, "region": THREE, "colour": 0})
        self.refuses(nth_striped, {**right, "region": THREE, "colour": 0, "n": 0})
        self.asks_for_an_end(nth_striped, {**right, "region": THREE, "colour": 0, "n": 0}, ("n",))
        self.same(nth_striped(CHESS, Sieve([2]), Region([(-9, 0, 0, 5)]), 0, 0), None)

    def test_greatest_stripe(self):
        # 4 * 5000 is 20000; 144 * 9 * 9 * 2 is 23328.
        least = {"carpet": Carpet(4, 0, 1, ["0123"]), "sieve": Sieve([5, 5, 5, 5, 8])}
        self.same(stripe_of(**least), 20000)
        self.same(striped_counts(region=Region([(0, 20000, 0, 1)]), **least)[:5],
                  [len(striped_by_hand(least["carpet"], least["sieve"], Region([(0, 20000, 0, 1)]), colour))
                   for colour in range(5)])
        for carpet, ks in ((SLANTED, [9, 9, 2]), (plain(0), [9, 9, 9, 9, 4]), (Carpet(5, 0, 1, ["01234"]),
                                                                               [5, 5, 5, 5, 8]),
                           (plain(0), [9] * 5), (Carpet(7, 0, 1, ["0000001"]), [7, 7, 7, 9])):
            sieve = Sieve(ks)
            self.assertGreater(stripe_of(carpet, sieve), 20000)
            for region in (THREE, ~THREE, None):
                self.bears(TooMany, "limit", 20000, striped_counts, carpet, sieve, region)
                for colour in (0, None):
                    self.bears(TooMany, "limit", 20000, striped_count, carpet, sieve, region, colour)
                    self.bears(TooMany, "limit", 20000, nth_striped, carpet, sieve, region, colour, None)
            self.bears(TooMany, "limit", 20000, nth_striped, n=0, colour=0, region=THREE, sieve=sieve, carpet=carpet)
