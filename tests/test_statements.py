"""[51]: statements by booking days, and balances by value days."""

import itertools
import random
import unittest

from corebank.days import LAST_DAY
from corebank.errors import BadDay, BadValue, Missing
from corebank.ledger import Ledger
from corebank.statements import daily, statement
from tests.helper import Case


class StatementsCase(Case):

    def setUp(self):
        self.ledger = Ledger()
        for sort in ["asset", "debt", "debt"]:
            self.ledger.open_account("EUR", sort)

    def post(self, booked, valued, units):
        """Post units on account 1 against account 2, and return the number of the entry."""
        return self.ledger.post(booked, valued, "x", [(1, units), (2, -units)])


class StatementTest(StatementsCase):

    def setUp(self):
        StatementsCase.setUp(self)
        for booked, valued, units in [(10, 10, 100), (20, 5, 7), (20, 30, -3), (21, 0, 50), (29, 99, 1), (30, 30, -200), (31, 10, 9)]:
            self.post(booked, valued, units)

    def test_on_and_around_first_and_last(self):
        rows = [(1, 10, 10, 100, 100), (2, 20, 5, 7, 107), (3, 20, 30, -3, 104), (4, 21, 0, 50, 154), (5, 29, 99, 1, 155),
                (6, 30, 30, -200, -45), (7, 31, 10, 9, -36)]
        for first, last, opening, part, closing in [
            (0, 9, 0, [], 0), (0, 10, 0, rows[:1], 100), (10, 10, 0, rows[:1], 100), (11, 19, 100, [], 100),
            (11, 20, 100, rows[1:3], 104), (20, 20, 100, rows[1:3], 104), (20, 30, 100, rows[1:6], -45), (21, 29, 104, rows[3:5], 155),
            (30, 31, 155, rows[5:], -36), (31, LAST_DAY, -45, rows[6:], -36), (32, 40, -36, [], -36), (0, LAST_DAY, 0, rows, -36),
            (0, 0, 0, [], 0), (LAST_DAY, LAST_DAY, -36, [], -36),
        ]:
            self.answers((opening, part, closing), statement, self.ledger, 1, first, last)
            opening, part, closing = statement(self.ledger, 2, first, last)
            self.assertEqual(closing - opening, sum(row[3] for row in part))

    def test_other_accounts(self):
        self.answers((0, [], 0), statement, self.ledger, 3, 0, 40)
        self.assertEqual(statement(self.ledger, 2, 11, 20), (-100, [(2, 20, 5, -7, -107), (3, 20, 30, 3, -104)], -104))

    def test_account_twice_in_an_entry(self):
        self.ledger.post(40, 41, "x", [(1, 5), (2, -7), (1, 2)])
        self.answers((-36, [(8, 40, 41, 5, -31), (8, 40, 41, 2, -29)], -29), statement, self.ledger, 1, 40, 40)

    def test_reversal(self):
        self.ledger.reverse(1, 50, "x")
        self.answers((-36, [(8, 50, 10, -100, -136)], -136), statement, self.ledger, 1, 50, 50)

    def test_what_is_handed_out_is_new(self):
        before = statement(self.ledger, 1, 0, 40)
        handed_out = statement(self.ledger, 1, 0, 40)
        handed_out[1].clear()
        self.answers(before, statement, self.ledger, 1, 0, 40)

    def test_random_ledgers(self):
        for seed in range(40):
            rng = random.Random(seed)
            StatementsCase.setUp(self)
            booked = 0
            for _ in range(25):
                booked += rng.randint(0, 2)
                self.post(booked, rng.randint(0, 60), rng.choice([-5, 1, 30]))
            for _ in range(10):
                first = rng.randint(0, 40)
                last = first + rng.randint(0, 20)
                opening, rows, closing = statement(self.ledger, 1, first, last)
                self.assertEqual(opening, self.ledger.balance(1, first - 1, None))
                self.assertEqual(closing, self.ledger.balance(1, last, None))
                lines = [line for line in self.ledger.lines_of(1) if first <= line[1] <= last]
                self.assertEqual([row[:4] for row in rows], lines)
                behind = list(itertools.accumulate([line[3] for line in lines], initial=opening))
                self.assertEqual([row[4] for row in rows] + [closing], behind[1:] + [behind[-1]])


class DailyTest(StatementsCase):

    def test_by_value_days(self):
        for booked, valued, units in [(10, 10, 100), (10, 8, 7), (12, 30, -3), (20, 9, 50), (40, 40, 1000)]:
            self.post(booked, valued, units)
        self.answers([0, 7, 57, 157, 157], daily, self.ledger, 1, 7, 11)
        self.answers([157, 154, 154], daily, self.ledger, 1, 29, 31)
        self.answers([-157, -154, -154], daily, self.ledger, 2, 29, 31)
        self.answers([1154], daily, self.ledger, 1, 40, 40)
        self.answers([0], daily, self.ledger, 1, 0, 0)
        self.answers([1154], daily, self.ledger, 1, LAST_DAY, LAST_DAY)
        self.answers([0, 0], daily, self.ledger, 3, 8, 9)

    def test_number_of_days(self):
        self.post(10, 10, 100)
        self.answers([100], daily, self.ledger, 1, 10, 10)
        self.answers([0] * 9 + [100] * 391, daily, self.ledger, 1, 1, 400)
        self.answers([100] * 400, daily, self.ledger, 1, LAST_DAY - 399, LAST_DAY)
        self.raises(BadValue, daily, self.ledger, 1, 1, 401)
        self.raises(BadValue, daily, self.ledger, 1, LAST_DAY - 400, LAST_DAY)
        self.raises(BadValue, daily, self.ledger, 1, 0, LAST_DAY)
        # A statement is not bounded.
        self.assertEqual(statement(self.ledger, 1, 0, LAST_DAY)[2], 100)

    def test_what_is_handed_out_is_new(self):
        self.post(10, 10, 100)
        daily(self.ledger, 1, 9, 11).append("x")
        self.answers([0, 100, 100], daily, self.ledger, 1, 9, 11)

    def test_against_balances(self):
        rng = random.Random(51)
        booked = 0
        for _ in range(60):
            booked += rng.randint(0, 3)
            self.post(booked, rng.randint(0, 200), rng.choice([-9, 4, 13]))
        told = daily(self.ledger, 1, 0, 250)
        self.assertEqual(told, [self.ledger.balance(1, None, day) for day in range(251)])


class ChecksTest(StatementsCase):

    def test_each_and_two_at_once(self):
        for ask in [statement, daily]:
            for account in [0, -1, 4, 99]:
                for first, last in [(0, 5), (-1, 5), (0, LAST_DAY + 1), (5, 4), (0, 1000)]:
                    self.raises(Missing, ask, self.ledger, account, first, last)
            for first, last in [(-1, 5), (-5, -1), (0, LAST_DAY + 1), (LAST_DAY + 1, LAST_DAY + 2), (5, 4), (LAST_DAY, 0),
                                (LAST_DAY + 1, 0), (5, -1), (-1, 1000), (-1000, LAST_DAY + 1)]:
                self.raises(BadDay, ask, self.ledger, 1, first, last)
            self.assertIsNotNone(ask(self.ledger, 1, 5, 5))


if __name__ == "__main__":
    unittest.main()
