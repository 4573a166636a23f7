"""[3] to [7]: amounts, their texts, rounding and splitting."""

import unittest
from fractions import Fraction
from math import ceil, floor

from corebank.amounts import (
    GREAT, LIMIT, allocate, divide_rounded, format_amount, is_amount, parse_amount, split_equally,
)
from corebank.errors import BadValue
from tests.helper import Case

WAYS = ["down", "up", "even", "away"]
SOME_AMOUNTS = [0, 1, 5, 9, 10, 12, 99, 100, 101, 120, 999, 1000, 1001, 12345, 500000, 10 ** 9, 10 ** 12 - 1, 10 ** 12]


class IsAmountTest(Case):

    def test_bounds(self):
        for number in [1, 2, 1000, LIMIT - 1, LIMIT]:
            self.answers(True, is_amount, number)
        for number in [0, -1, -LIMIT, LIMIT + 1, GREAT]:
            self.answers(False, is_amount, number)


class FormatAmountTest(Case):

    def test_no_digits(self):
        for amount, text in [(0, "0"), (5, "5"), (-5, "-5"), (100, "100"), (-100, "-100"),
                             (GREAT, "1000000000000"), (-GREAT, "-1000000000000")]:
            self.answers(text, format_amount, amount, 0)

    def test_one_digit(self):
        for amount, text in [(0, "0.0"), (5, "0.5"), (-5, "-0.5"), (100, "10.0"), (-100, "-10.0"),
                             (GREAT, "100000000000.0"), (-GREAT, "-100000000000.0")]:
            self.answers(text, format_amount, amount, 1)

    def test_two_digits(self):
        for amount, text in [(0, "0.00"), (5, "0.05"), (-5, "-0.05"), (99, "0.99"), (100, "1.00"), (-100, "-1.00"),
                             (-101, "-1.01"), (-199, "-1.99"), (12345, "123.45"), (GREAT, "10000000000.00"),
                             (-GREAT, "-10000000000.00")]:
            self.answers(text, format_amount, amount, 2)

    def test_three_digits(self):
        for amount, text in [(0, "0.000"), (5, "0.005"), (-5, "-0.005"), (100, "0.100"), (-100, "-0.100"),
                             (1000, "1.000"), (-1050, "-1.050"), (GREAT, "1000000000.000"),
                             (-GREAT, "-1000000000.000")]:
            self.answers(text, format_amount, amount, 3)

    def test_digits_out_of_range(self):
        for digits in [-1, -2, 4, 5, 100]:
            for amount in [0, 5, -5, GREAT + 1, -GREAT - 1]:
                self.raises(BadValue, format_amount, amount, digits)

    def test_amount_out_of_range(self):
        for digits in [0, 1, 2, 3]:
            for amount in [GREAT + 1, -GREAT - 1, 10 ** 30, -10 ** 30]:
                self.raises(BadValue, format_amount, amount, digits)


class ParseAmountTest(Case):

    def test_reads_what_is_written(self):
        for digits in [0, 1, 2, 3]:
            for amount in SOME_AMOUNTS:
                self.answers(amount, parse_amount, format_amount(amount, digits), digits)
                self.answers(-amount, parse_amount, format_amount(-amount, digits), digits)

    def test_missing_digits_count_as_0(self):
        for text, digits, amount in [("1", 1, 10), ("1", 2, 100), ("1", 3, 1000), ("1.5", 1, 15), ("1.5", 2, 150),
                                     ("1.5", 3, 1500), ("1.05", 3, 1050), ("-1.5", 2, -150), ("-7", 2, -700),
                                     ("0.1", 3, 100), ("-0.1", 3, -100), ("0", 2, 0), ("0.0", 2, 0), ("0.0", 3, 0)]:
            self.answers(amount, parse_amount, text, digits)

    def test_point_without_digits(self):
        for digits in [0, 1, 2, 3]:
            for text in ["1.", "0.", "-1.", ".", "-.", "10."]:
                self.raises(BadValue, parse_amount, text, digits)

    def test_too_many_digits(self):
        for text, digits in [("1.55", 1), ("1.00", 1), ("1.555", 2), ("1.000", 2), ("1.5555", 3), ("1.0000", 3)]:
            self.raises(BadValue, parse_amount, text, digits)

    def test_no_point_with_digits_0(self):
        for text in ["1.0", "1.5", "0.0", "-1.0", "1.", "12.00"]:
            self.raises(BadValue, parse_amount, text, 0)

    def test_leading_zeros(self):
        for digits in [0, 1, 2, 3]:
            for text in ["00", "01", "007", "-01", "-00", "0000000000001"]:
                self.raises(BadValue, parse_amount, text, digits)
        for text in ["00.5", "01.5", "-01.5", "00.0"]:
            self.raises(BadValue, parse_amount, text, 2)

    def test_no_minus_before_0(self):
        for digits in [0, 1, 2, 3]:
            self.raises(BadValue, parse_amount, "-0", digits)
        for text in ["-0.0", "-0.00"]:
            self.raises(BadValue, parse_amount, text, 2)
        self.raises(BadValue, parse_amount, "-0.0", 1)
        self.raises(BadValue, parse_amount, "-0.000", 3)
        self.answers(-1, parse_amount, "-0.001", 3)

    def test_other_texts(self):
        for digits in [0, 1, 2, 3]:
            for text in ["", "-", ".5", "-.5", "+1", "+", " ", " 1", "1 ", "1 0", "- 1", "a", "1a", "a1", "0x1", "1e3",
                         "1_0", "1,5", "1-", "1.-5", "1.+5", "1. 5", "1.5 ", "1.a", "1..5", "1.5.5", "1.5.", "..",
                         "--1", "--", "-+1", "-1-", "1.5-", "~", "/", ":"]:
                self.raises(BadValue, parse_amount, text, digits)

    def test_long_texts(self):
        for digits in [0, 1, 2, 3]:
            for many in [17, 18, 19, 20, 4300, 4301, 5000, 20000]:
                for sign in ["0", "1", "9", "-", ".", " "]:
                    self.raises(BadValue, parse_amount, sign * many, digits)
                self.raises(BadValue, parse_amount, "-" + "1" * (many - 1), digits)
                self.raises(BadValue, parse_amount, "0." + "1" * (many - 2), digits)
                self.raises(BadValue, parse_amount, "0" * (many - 1) + "1", digits)

    def test_bounds(self):
        self.answers(GREAT, parse_amount, "1000000000000", 0)
        self.answers(-GREAT, parse_amount, "-1000000000000", 0)
        self.answers(GREAT, parse_amount, "100000000000", 1)
        self.answers(GREAT, parse_amount, "10000000000.0", 2)
        self.answers(-GREAT, parse_amount, "-1000000000.000", 3)
        self.answers(GREAT - 1, parse_amount, "999999999.999", 3)
        for text, digits in [("1000000000001", 0), ("100000000000.1", 1), ("10000000000.01", 2), ("1000000000.001", 3),
                             ("9999999999999", 0), ("1000000000000", 1), ("1000000001", 3), ("99999999999999999", 0)]:
            self.raises(BadValue, parse_amount, text, digits)
            self.raises(BadValue, parse_amount, "-" + text, digits)

    def test_digits_out_of_range(self):
        for digits in [-1, -2, 4, 5]:
            for text in ["0", "1", "1.5", "", "x", "1" * 19]:
                self.raises(BadValue, parse_amount, text, digits)


def rounded(over, under, way):
    """The same as divide_rounded, by exact fractions."""
    exact = Fraction(over, under)
    if way == "down":
        return floor(exact)
    if way == "up":
        return ceil(exact)
    if way == "even":
        return round(exact)
    size = floor(abs(exact) + Fraction(1, 2))
    return size if over >= 0 else -size


class DivideRoundedTest(Case):

    def test_halves(self):
        for over, down, up, even, away in [(1, 0, 1, 0, 1), (3, 1, 2, 2, 2), (5, 2, 3, 2, 3), (-1, -1, 0, 0, -1),
                                           (-3, -2, -1, -2, -2), (-5, -3, -2, -2, -3)]:
            self.answers(down, divide_rounded, over, 2, "down")
            self.answers(up, divide_rounded, over, 2, "up")
            self.answers(even, divide_rounded, over, 2, "even")
            self.answers(away, divide_rounded, over, 2, "away")

    def test_rests_below_and_above_a_half(self):
        for over, down, nearest, up in [(4, 1, 1, 2), (5, 1, 2, 2), (-4, -2, -1, -1), (-5, -2, -2, -1)]:
            self.answers(down, divide_rounded, over, 3, "down")
            self.answers(up, divide_rounded, over, 3, "up")
            self.answers(nearest, divide_rounded, over, 3, "even")
            self.answers(nearest, divide_rounded, over, 3, "away")

    def test_without_a_rest(self):
        for way in WAYS:
            for over, under, result in [(0, 1, 0), (0, 7, 0), (6, 3, 2), (-6, 3, -2), (5, 1, 5), (-5, 1, -5)]:
                self.answers(result, divide_rounded, over, under, way)

    def test_all_small_ones(self):
        for way in WAYS:
            for under in range(1, 13):
                for over in range(-40, 41):
                    self.answers(rounded(over, under, way), divide_rounded, over, under, way)

    def test_great_ones(self):
        for way in WAYS:
            for under in [2, 3600000, 10 ** 12, 10 ** 30, 10 ** 30 + 1]:
                for times in [0, 1, 2, 10 ** 12, 10 ** 12 + 1]:
                    for more in [0, 1, under // 2 - 1, under // 2, under // 2 + 1, under - 1]:
                        over = times * under + more
                        self.answers(rounded(over, under, way), divide_rounded, over, under, way)
                        self.answers(rounded(-over, under, way), divide_rounded, -over, under, way)

    def test_wrong(self):
        for way in WAYS + ["", "nearest", "Down", "up "]:
            for under in [0, -1, -2, -10 ** 12]:
                self.raises(BadValue, divide_rounded, 5, under, way)
        for way in ["", "nearest", "Down", "up ", "half"]:
            for over in [0, 4, 5, -5]:
                self.raises(BadValue, divide_rounded, over, 2, way)


def allocated(amount, weights):
    """The same as allocate, by giving the left-over units one by one."""
    total = sum(weights)
    shares = [amount * weight // total for weight in weights]
    rests = [amount * weight % total for weight in weights]
    while sum(shares) < amount:
        place = rests.index(max(rests))
        shares[place] += 1
        rests[place] = -1
    return shares


class AllocateTest(Case):

    def test_by_hand(self):
        for amount, weights, shares in [
                (100, [1, 1, 1], [34, 33, 33]),
                (101, [1, 1, 1], [34, 34, 33]),
                (10, [1, 2], [3, 7]),
                (10, [2, 1], [7, 3]),
                (1, [1, 2, 3], [0, 0, 1]),
                (2, [3, 2, 3], [1, 0, 1]),
                (1, [3, 2, 3], [1, 0, 0]),
                (7, [5, 0, 5], [4, 0, 3]),
                (3, [0, 1, 0, 1], [0, 2, 0, 1]),
                (0, [1, 2, 3], [0, 0, 0]),
                (5, [7], [5]),
                (1, [0, 0, 1], [0, 0, 1]),
        ]:
            self.answers(shares, allocate, amount, weights)

    def test_many(self):
        for amount in [0, 1, 2, 3, 5, 17, 100, 999, 10 ** 6 + 1, 10 ** 12 - 1, 10 ** 12]:
            for weights in [[1], [1, 1], [3, 1, 2], [0, 5, 0, 5, 1], [1000000, 1, 999999], [7, 7, 7, 7, 7, 7],
                            [k * k % 17 for k in range(60)], list(range(60)), list(range(59, -1, -1)), [1000000] * 60]:
                shares = allocate(amount, weights)
                self.assertEqual(shares, allocated(amount, weights), (amount, weights))
                self.assertEqual(sum(shares), amount)
                for share, weight in zip(shares, weights):
                    self.assertTrue(weight > 0 or share == 0)

    def test_amount_out_of_range(self):
        for amount in [-1, -10 ** 12, 10 ** 12 + 1, 10 ** 30]:
            for weights in [[1], [1, 2, 3], [], [0]]:
                self.raises(BadValue, allocate, amount, weights)

    def test_number_of_weights(self):
        self.answers([5], allocate, 5, [1])
        self.answers([1] * 60, allocate, 60, [1] * 60)
        for weights in [[], [1] * 61, [1] * 100, [0] * 61]:
            self.raises(BadValue, allocate, 60, weights)

    def test_each_weight(self):
        self.answers([5], allocate, 5, [1000000])
        self.answers([10, 0], allocate, 10, [1000000, 1])
        self.answers([0, 10], allocate, 10, [0, 1000000])
        for weights in [[1000001], [1, 1000001], [1000001, 1], [-1], [1, -1], [2, -1], [-1, 2], [1, 2, -1, 3]]:
            self.raises(BadValue, allocate, 10, weights)

    def test_all_0(self):
        for many in [1, 2, 59, 60]:
            self.raises(BadValue, allocate, 10, [0] * many)
            self.raises(BadValue, allocate, 0, [0] * many)

    def test_lists(self):
        weights = [3, 1, 2]
        first = allocate(10, weights)
        self.assertEqual(weights, [3, 1, 2])
        self.assertIsNot(first, weights)
        second = allocate(10, weights)
        self.assertIsNot(first, second)
        first.append(1)
        self.assertEqual(second, [5, 2, 3])
        for wrong in [[3, -1, 2], [0, 0], [1000001, 2]]:
            kept = list(wrong)
            self.raises(BadValue, allocate, 10, wrong)
            self.assertEqual(wrong, kept)
        self.raises(BadValue, allocate, -1, weights)
        self.assertEqual(weights, [3, 1, 2])


class SplitEquallyTest(Case):

    def test_by_hand(self):
        for amount, parts, shares in [(100, 3, [34, 33, 33]), (5, 1, [5]), (0, 4, [0, 0, 0, 0]), (3, 4, [1, 1, 1, 0]),
                                      (60, 60, [1] * 60), (61, 60, [2] + [1] * 59), (10 ** 12, 1, [10 ** 12]),
                                      (10 ** 12, 3, [333333333334, 333333333333, 333333333333])]:
            self.answers(shares, split_equally, amount, parts)

    def test_as_allocate(self):
        for amount in [0, 1, 59, 60, 61, 10 ** 12]:
            for parts in range(1, 61):
                self.answers(allocate(amount, [1] * parts), split_equally, amount, parts)

    def test_wrong(self):
        for parts in [0, -1, 61, 62]:
            for amount in [10, -1, 10 ** 12 + 1]:
                self.raises(BadValue, split_equally, amount, parts)
        for amount in [-1, 10 ** 12 + 1]:
            for parts in [1, 2, 60]:
                self.raises(BadValue, split_equally, amount, parts)


if __name__ == "__main__":
    unittest.main()
