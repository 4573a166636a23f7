"""[17] to [19]: tiers, parts and products with their versions."""

import random
import unittest

from corebank.amounts import LIMIT
from corebank.days import LAST_DAY
from corebank.errors import BadDay, BadValue, Full
from corebank.products import PARTS, Product, check_tiers, daily_parts, parts_of
from tests.helper import Case

GOOD_TIERS = [
    [(0, 0)],
    [(0, 10000)],
    [(0, 5), (1, 7)],
    [(0, 5), (LIMIT, 7)],
    [(0, 500), (1000, 300), (2000, 0)],
    [(start * 10, start) for start in range(8)],
]
WRONG_TIERS = [
    [],
    [(start * 10, start) for start in range(9)],
    [(1, 5)],
    [(-1, 5)],
    [(-1, 5), (0, 5)],
    [(0, 5), (0, 5)],
    [(0, 5), (-1, 5)],
    [(0, 5), (10, 5), (10, 5)],
    [(0, 5), (10, 5), (9, 5)],
    [(0, 5), (LIMIT + 1, 5)],
    [(0, 5), (10, 5), (LIMIT + 1, 5)],
    [(0, -1)],
    [(0, 10001)],
    [(0, 5), (10, -1)],
    [(0, 5), (10, 10001)],
    [(0, -1), (10, 5)],
]


def slow_parts(tiers, size):
    """The parts, unit by unit."""
    return sum([[rate for start, rate in tiers if start <= unit][-1] for unit in range(size)])


class TiersTest(Case):

    def test_good(self):
        for tiers in GOOD_TIERS:
            before = list(tiers)
            self.answers(None, check_tiers, tiers)
            self.assertEqual(tiers, before)

    def test_wrong(self):
        for tiers in WRONG_TIERS:
            before = list(tiers)
            self.raises(BadValue, check_tiers, tiers)
            self.assertEqual(tiers, before)


class PartsTest(Case):

    def test_one_unit(self):
        self.assertEqual(PARTS, 3600000)
        self.assertEqual(360 * parts_of([(0, 10000)], 1), PARTS)

    def test_one_tier(self):
        for size, parts in [(0, 0), (1, 250), (2, 500), (LIMIT, 250 * LIMIT), (10 ** 30, 250 * 10 ** 30)]:
            self.answers(parts, parts_of, [(0, 250)], size)
        self.answers(0, parts_of, [(0, 0)], LIMIT)
        self.answers(10000 * LIMIT, parts_of, [(0, 10000)], LIMIT)

    def test_around_each_start(self):
        tiers = [(0, 5), (10, 7), (100, 0), (1000, 3)]
        for size, parts in [(0, 0), (9, 45), (10, 50), (11, 57), (99, 673), (100, 680), (101, 680), (999, 680), (1000, 680),
                            (1001, 683), (1010, 710)]:
            self.answers(parts, parts_of, tiers, size)
        self.assertEqual(tiers, [(0, 5), (10, 7), (100, 0), (1000, 3)])

    def test_great_sizes(self):
        tiers = [(0, 1), (LIMIT, 10000)]
        self.answers(LIMIT - 1, parts_of, tiers, LIMIT - 1)
        self.answers(LIMIT, parts_of, tiers, LIMIT)
        self.answers(LIMIT + 10000, parts_of, tiers, LIMIT + 1)
        self.answers(LIMIT + 10000 * (10 ** 20 - LIMIT), parts_of, tiers, 10 ** 20)

    def test_unit_by_unit(self):
        source = random.Random(1)
        for _ in range(200):
            starts = [0] + sorted(source.sample(range(1, 60), source.randrange(8)))
            tiers = [(start, source.randrange(10001)) for start in starts]
            for size in range(0, 70, 3):
                self.answers(slow_parts(tiers, size), parts_of, tiers, size)

    def test_daily_parts(self):
        credit, debit = [(0, 5), (10, 7)], [(0, 100), (5, 200)]
        for balance, parts in [(0, 0), (1, 5), (10, 50), (12, 64), (-1, -100), (-5, -500), (-6, -700), (-10, -1500)]:
            self.answers(parts, daily_parts, credit, debit, balance)
        self.answers(0, daily_parts, [(0, 5)], [(0, 0)], -LIMIT)
        self.assertEqual((credit, debit), ([(0, 5), (10, 7)], [(0, 100), (5, 200)]))


class ProductTest(Case):

    def setUp(self):
        self.product = Product("save", "EUR", "even")

    def add_raises(self, error, first, credit, debit):
        """Adding raises the error and changes nothing."""
        before = [(self.product.version_at(day), self.product.parts_at(day, 7)) for day in range(0, 100)]
        self.raises(error, self.product.add_version, first, credit, debit)
        after = [(self.product.version_at(day), self.product.parts_at(day, 7)) for day in range(0, 100)]
        self.assertEqual(before, after)

    def test_fields(self):
        for name, currency, way in [("save", "EUR", "even"), ("a", "USD", "down"), ("loan12345678", "CHF", "away")]:
            product = Product(name, currency, way)
            self.assertEqual((product.name, product.currency, product.way), (name, currency, way))

    def test_without_versions(self):
        for day in [-1, 0, 10, LAST_DAY, LAST_DAY + 1]:
            self.answers(None, self.product.version_at, day)
            self.answers(0, self.product.parts_at, day, 1000)
            self.answers(0, self.product.parts_at, day, -1000)

    def test_around_each_first_day(self):
        self.answers(None, self.product.add_version, 10, [(0, 5)], [(0, 50)])
        self.answers(None, self.product.add_version, 11, [(0, 6)], [(0, 60)])
        self.answers(None, self.product.add_version, 20, [(0, 7), (100, 1)], [(0, 70), (100, 1)])
        for day, place, up, down in [(-5, None, 0, 0), (0, None, 0, 0), (9, None, 0, 0), (10, 0, 1000, -10000),
                                     (11, 1, 1200, -12000), (12, 1, 1200, -12000), (19, 1, 1200, -12000),
                                     (20, 2, 800, -7100), (21, 2, 800, -7100), (10 ** 9, 2, 800, -7100)]:
            self.answers(place, self.product.version_at, day)
            self.answers(up, self.product.parts_at, day, 200)
            self.answers(down, self.product.parts_at, day, -200)
            self.answers(0, self.product.parts_at, day, 0)

    def test_first_days(self):
        for first in [-1, -100, LAST_DAY + 1, 10 ** 9]:
            self.add_raises(BadDay, first, [(0, 5)], [(0, 5)])
        self.product.add_version(0, [(0, 5)], [(0, 5)])
        self.add_raises(BadDay, 0, [(0, 6)], [(0, 6)])
        self.product.add_version(50, [(0, 6)], [(0, 6)])
        for first in [50, 49, 0, -1, LAST_DAY + 1]:
            self.add_raises(BadDay, first, [(0, 7)], [(0, 7)])
            self.add_raises(BadDay, first, [], [])
        self.product.add_version(51, [(0, 7)], [(0, 7)])
        self.product.add_version(LAST_DAY, [(0, 8)], [(0, 8)])
        self.add_raises(BadDay, LAST_DAY, [(0, 9)], [(0, 9)])
        self.add_raises(BadDay, LAST_DAY + 1, [(0, 9)], [(0, 9)])
        self.answers(3, self.product.version_at, LAST_DAY)

    def test_wrong_tiers(self):
        for wrong in WRONG_TIERS:
            self.add_raises(BadValue, 5, wrong, [(0, 5)])
            self.add_raises(BadValue, 5, [(0, 5)], wrong)
            self.add_raises(BadValue, 5, wrong, wrong)
        self.answers(None, self.product.version_at, 5)
        for good in GOOD_TIERS:
            product = Product("save", "EUR", "even")
            product.add_version(5, good, good)
            self.answers(parts_of(good, 12345), product.parts_at, 5, 12345)

    def test_at_most_20(self):
        for first in range(20):
            self.product.add_version(first, [(0, first)], [(0, 0)])
        self.add_raises(Full, 20, [(0, 5)], [(0, 5)])
        self.add_raises(BadDay, 19, [(0, 5)], [(0, 5)])
        self.add_raises(BadValue, 20, [], [(0, 5)])
        self.add_raises(BadValue, 20, [(0, 5)], [])
        self.answers(19, self.product.version_at, 20)
        self.answers(190, self.product.parts_at, 20, 10)

    def test_lists_are_not_kept(self):
        credit, debit = [(0, 5), (10, 6)], [(0, 50), (10, 60)]
        self.product.add_version(5, credit, debit)
        self.assertEqual((credit, debit), ([(0, 5), (10, 6)], [(0, 50), (10, 60)]))
        credit[0] = (0, 999)
        debit.clear()
        self.answers(62, self.product.parts_at, 5, 12)
        self.answers(-620, self.product.parts_at, 5, -12)


if __name__ == "__main__":
    unittest.main()
