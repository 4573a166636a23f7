"""[20] to [25]: deposit accounts, their states, holds, checks and interest."""

import random
import unittest

from corebank.amounts import LIMIT, divide_rounded
from corebank.days import LAST_DAY
from corebank.deposits import Deposits
from corebank.errors import BadDay, BadValue, Full, Missing, Refused
from corebank.ledger import Ledger
from corebank.products import PARTS, Product
from tests.helper import Case

NO_DAYS = [-1, -100, LAST_DAY + 1, 10 ** 9]
NO_AMOUNTS = [0, -1, -LIMIT, LIMIT + 1, 10 ** 12]
CASH = 1
OTHER_CASH = 2
OPENED = 100


def make_product(way="even", credit=3600, debit=7200, first=0):
    """A product in EUR; a credit rate of 3600 on 1000 units bears one unit each day."""
    product = Product("save", "EUR", way)
    product.add_version(first, [(0, credit)], [(0, debit)])
    return product


class DepositsCase(Case):

    def setUp(self):
        self.ledger = Ledger()
        self.ledger.open_account("EUR", "asset")
        self.ledger.open_account("USD", "asset")
        self.deposits = Deposits(self.ledger)
        self.product = make_product()
        self.account = self.deposits.start(self.product, "ann", OPENED)

    def pay_in(self, units, day=OPENED, value=None, account=None):
        """Post units from cash to a deposit account; below 0 the other way."""
        to = self.account if account is None else account
        return self.ledger.post(day, day if value is None else value, "", [(CASH, units), (to, -units)])

    def picture(self):
        """All that the deposits and their ledger tell."""
        told = [[question(account) for question in (
            self.deposits.state_of, self.deposits.limit_of, self.deposits.owner_of, self.deposits.opened_on,
            self.deposits.own_balance, self.deposits.held, self.deposits.available, self.deposits.accrued,
        )] for account in self.deposits.numbers()]
        entries = [self.ledger.entry(number) for number in range(1, self.ledger.entries() + 1)]
        holds = []
        try:
            while True:
                holds.append(self.deposits.hold_of(len(holds) + 1))
        except Missing:
            return told, entries, holds, self.ledger.accounts()

    def fails(self, error, function, *arguments):
        """The call raises the error and changes nothing."""
        before = self.picture()
        self.raises(error, function, *arguments)
        self.assertEqual(self.picture(), before)


class StartTest(DepositsCase):

    def test_a_new_account(self):
        self.assertEqual(self.account, 3)
        self.answers(3, self.ledger.accounts)
        self.answers("debt", self.ledger.sort_of, 3)
        self.answers("EUR", self.ledger.currency_of, 3)
        self.answers("open", self.deposits.state_of, 3)
        self.answers(0, self.deposits.limit_of, 3)
        self.answers("ann", self.deposits.owner_of, 3)
        self.answers(OPENED, self.deposits.opened_on, 3)
        self.answers(0, self.deposits.own_balance, 3)
        self.answers(0, self.deposits.held, 3)
        self.answers(0, self.deposits.available, 3)
        self.answers(0, self.deposits.accrued, 3)
        self.assertIs(self.deposits.product_of(3), self.product)
        self.answers([3], self.deposits.numbers)

    def test_numbers_and_currency(self):
        dollars = Product("usd", "USD", "down")
        self.ledger.open_account("CHF", "asset")
        self.answers(5, self.deposits.start, dollars, "bob", 0)
        self.answers(6, self.deposits.start, self.product, "ann", LAST_DAY)
        self.answers("USD", self.ledger.currency_of, 5)
        self.answers("EUR", self.ledger.currency_of, 6)
        self.assertIs(self.deposits.product_of(5), dollars)
        self.answers("bob", self.deposits.owner_of, 5)
        self.answers(0, self.deposits.opened_on, 5)
        self.answers(LAST_DAY, self.deposits.opened_on, 6)
        self.answers([3, 5, 6], self.deposits.numbers)
        self.deposits.numbers().append(4)
        self.deposits.numbers().clear()
        self.answers([3, 5, 6], self.deposits.numbers)
        self.answers([], Deposits(Ledger()).numbers)

    def test_no_day(self):
        for day in NO_DAYS:
            self.fails(BadDay, self.deposits.start, self.product, "bob", day)
        self.answers(3, self.ledger.accounts)

    def test_full_as_the_ledger(self):
        while self.ledger.accounts() < 199:
            self.ledger.open_account("EUR", "cost")
        self.answers(200, self.deposits.start, self.product, "bob", 0)
        self.fails(Full, self.deposits.start, self.product, "bob", 0)
        self.fails(BadDay, self.deposits.start, self.product, "bob", -1)
        self.answers([3, 200], self.deposits.numbers)

    def test_missing(self):
        deposits = self.deposits
        for account in [0, -1, -3, 1, 2, 4, 5, 200, 10 ** 12]:
            for call in [deposits.state_of, deposits.limit_of, deposits.owner_of, deposits.opened_on, deposits.product_of,
                         deposits.own_balance, deposits.freeze, deposits.thaw, deposits.finish, deposits.held,
                         deposits.available, deposits.accrued]:
                self.fails(Missing, call, account)
            for limit in [0, -1]:
                self.fails(Missing, deposits.set_limit, account, limit)
            for amount in [1, 0]:
                self.fails(Missing, deposits.check_debit, account, amount)
                self.fails(Missing, deposits.check_credit, account, amount)
                for day in [0, -1]:
                    self.fails(Missing, deposits.hold, account, amount, day)
            for day in [0, -1]:
                self.fails(Missing, deposits.accrue, account, day)
                self.fails(Missing, deposits.would_accrue, account, day)
                self.fails(Missing, deposits.credit_interest, account, day, account, "c" * 61)

    def test_own_balance_over_all_days(self):
        self.pay_in(70)
        self.answers(70, self.deposits.own_balance, self.account)
        self.pay_in(-100, 200, LAST_DAY)
        self.answers(-30, self.deposits.own_balance, self.account)
        self.answers(-30, self.deposits.available, self.account)
        self.pay_in(5, LAST_DAY, 0)
        self.answers(-25, self.deposits.own_balance, self.account)


class StatesTest(DepositsCase):

    def test_limits(self):
        for limit in [0, 1, 500, LIMIT, 0]:
            self.answers(None, self.deposits.set_limit, self.account, limit)
            self.answers(limit, self.deposits.limit_of, self.account)
            self.answers(limit, self.deposits.available, self.account)
        self.deposits.set_limit(self.account, 7)
        for limit in [-1, -LIMIT, LIMIT + 1]:
            self.fails(BadValue, self.deposits.set_limit, self.account, limit)
        self.answers(7, self.deposits.limit_of, self.account)
        self.answers("open", self.deposits.state_of, self.account)

    def test_limit_of_a_frozen_account(self):
        self.deposits.freeze(self.account)
        self.answers(None, self.deposits.set_limit, self.account, 9)
        self.answers(9, self.deposits.limit_of, self.account)
        self.fails(BadValue, self.deposits.set_limit, self.account, -1)

    def test_open(self):
        self.fails(Refused, self.deposits.thaw, self.account)
        self.answers(None, self.deposits.freeze, self.account)
        self.answers("frozen", self.deposits.state_of, self.account)

    def test_frozen(self):
        self.deposits.freeze(self.account)
        self.fails(Refused, self.deposits.freeze, self.account)
        self.fails(Refused, self.deposits.finish, self.account)
        self.answers(None, self.deposits.thaw, self.account)
        self.answers("open", self.deposits.state_of, self.account)
        self.fails(Refused, self.deposits.thaw, self.account)

    def test_closed(self):
        self.answers(None, self.deposits.finish, self.account)
        self.answers("closed", self.deposits.state_of, self.account)
        for call in [self.deposits.freeze, self.deposits.thaw, self.deposits.finish]:
            self.fails(Refused, call, self.account)
        self.fails(BadValue, self.deposits.set_limit, self.account, -1)
        self.fails(BadValue, self.deposits.set_limit, self.account, LIMIT + 1)
        self.fails(Refused, self.deposits.set_limit, self.account, 0)
        self.answers([self.account], self.deposits.numbers)
        self.answers("ann", self.deposits.owner_of, self.account)
        self.answers(0, self.deposits.available, self.account)
        self.answers(0, self.deposits.accrued, self.account)

    def test_states_of_accounts_are_apart(self):
        other = self.deposits.start(self.product, "bob", 0)
        self.deposits.freeze(self.account)
        self.deposits.set_limit(self.account, 5)
        self.answers("open", self.deposits.state_of, other)
        self.answers(0, self.deposits.limit_of, other)
        self.deposits.finish(other)
        self.answers("frozen", self.deposits.state_of, self.account)

    def test_no_finish_with_money(self):
        self.pay_in(1)
        self.fails(Refused, self.deposits.finish, self.account)
        self.pay_in(-2)
        self.fails(Refused, self.deposits.finish, self.account)
        self.pay_in(1)
        self.answers(None, self.deposits.finish, self.account)

    def test_no_finish_with_a_hold(self):
        self.deposits.set_limit(self.account, 10)
        hold = self.deposits.hold(self.account, 1, 500)
        self.fails(Refused, self.deposits.finish, self.account)
        self.deposits.release(hold)
        self.answers(None, self.deposits.finish, self.account)
        self.answers(10, self.deposits.limit_of, self.account)

    def test_no_finish_with_accrued_parts(self):
        self.pay_in(1, OPENED, OPENED)
        self.pay_in(-1, OPENED, OPENED + 1)
        self.deposits.accrue(self.account, OPENED)
        self.answers(3600, self.deposits.accrued, self.account)
        self.fails(Refused, self.deposits.finish, self.account)
        self.pay_in(-1, OPENED, OPENED)
        self.pay_in(1, OPENED, OPENED + 1)
        self.fails(Refused, self.deposits.finish, self.account)
        self.answers(0, self.deposits.accrue, self.account, OPENED)
        self.answers(None, self.deposits.finish, self.account)

    def test_no_finish_with_negative_parts(self):
        self.pay_in(-1, OPENED, OPENED)
        self.pay_in(1, OPENED, OPENED + 1)
        self.answers(-7200, self.deposits.accrue, self.account, OPENED)
        self.fails(Refused, self.deposits.finish, self.account)

    def test_finish_asks_the_last_accrual_only(self):
        self.pay_in(1, OPENED, OPENED)
        self.pay_in(-1, OPENED, OPENED + 1)
        self.answers(3600, self.deposits.would_accrue, self.account, OPENED)
        self.answers(None, self.deposits.finish, self.account)


class ChecksTest(DepositsCase):

    def test_debits(self):
        self.fails(Refused, self.deposits.check_debit, self.account, 1)
        self.pay_in(70)
        for amount in [1, 69, 70]:
            before = self.picture()
            self.answers(None, self.deposits.check_debit, self.account, amount)
            self.assertEqual(self.picture(), before)
        self.fails(Refused, self.deposits.check_debit, self.account, 71)
        self.deposits.set_limit(self.account, 30)
        self.answers(None, self.deposits.check_debit, self.account, 100)
        self.fails(Refused, self.deposits.check_debit, self.account, 101)
        self.deposits.hold(self.account, 60, 0)
        self.answers(None, self.deposits.check_debit, self.account, 40)
        self.fails(Refused, self.deposits.check_debit, self.account, 41)
        self.fails(Refused, self.deposits.check_debit, self.account, LIMIT)

    def test_debits_below_0(self):
        self.deposits.set_limit(self.account, 50)
        self.pay_in(-30)
        self.answers(20, self.deposits.available, self.account)
        self.answers(None, self.deposits.check_debit, self.account, 20)
        self.fails(Refused, self.deposits.check_debit, self.account, 21)
        self.deposits.set_limit(self.account, 10)
        self.answers(-20, self.deposits.available, self.account)
        self.fails(Refused, self.deposits.check_debit, self.account, 1)

    def test_credits(self):
        for amount in [1, 500, LIMIT]:
            before = self.picture()
            self.answers(None, self.deposits.check_credit, self.account, amount)
            self.assertEqual(self.picture(), before)
        self.pay_in(1)
        self.answers(None, self.deposits.check_credit, self.account, LIMIT - 1)
        self.fails(Refused, self.deposits.check_credit, self.account, LIMIT)
        self.pay_in(LIMIT - 1)
        self.fails(Refused, self.deposits.check_credit, self.account, 1)

    def test_credits_do_not_look_at_limits_and_holds(self):
        self.deposits.set_limit(self.account, LIMIT)
        self.pay_in(-40)
        self.answers(None, self.deposits.check_credit, self.account, LIMIT)
        self.pay_in(50)
        self.deposits.hold(self.account, 10, 0)
        self.answers(None, self.deposits.check_credit, self.account, LIMIT - 10)
        self.fails(Refused, self.deposits.check_credit, self.account, LIMIT - 9)

    def test_amounts(self):
        self.pay_in(70)
        for state in ["open", "frozen"]:
            for amount in NO_AMOUNTS:
                self.fails(BadValue, self.deposits.check_debit, self.account, amount)
                self.fails(BadValue, self.deposits.check_credit, self.account, amount)
            if state == "open":
                self.deposits.freeze(self.account)

    def test_frozen_and_closed(self):
        closed = self.deposits.start(self.product, "bob", 0)
        self.deposits.set_limit(closed, 500)
        self.deposits.finish(closed)
        self.pay_in(70)
        self.deposits.freeze(self.account)
        for account in [self.account, closed]:
            self.fails(Refused, self.deposits.check_debit, account, 1)
            self.fails(Refused, self.deposits.check_credit, account, 1)
            self.fails(Refused, self.deposits.hold, account, 1, 0)
            self.fails(BadValue, self.deposits.hold, account, 0, -1)
            self.fails(BadDay, self.deposits.hold, account, 1, -1)
        self.deposits.thaw(self.account)
        self.answers(None, self.deposits.check_debit, self.account, 70)
        self.answers(None, self.deposits.check_credit, self.account, 70)
        self.answers(1, self.deposits.hold, self.account, 70, 0)


class HoldsTest(DepositsCase):

    def setUp(self):
        DepositsCase.setUp(self)
        self.pay_in(100)

    def test_numbers_and_sums(self):
        other = self.deposits.start(self.product, "bob", 0)
        self.pay_in(100, account=other)
        self.answers(1, self.deposits.hold, self.account, 30, 110)
        self.answers(2, self.deposits.hold, other, 50, LAST_DAY)
        self.answers(3, self.deposits.hold, self.account, 20, 0)
        self.answers(50, self.deposits.held, self.account)
        self.answers(50, self.deposits.available, self.account)
        self.answers(100, self.deposits.own_balance, self.account)
        self.answers(50, self.deposits.held, other)
        self.answers((self.account, 30, 110, "held"), self.deposits.hold_of, 1)
        self.answers((other, 50, LAST_DAY, "held"), self.deposits.hold_of, 2)
        self.answers((self.account, 20, 0, "held"), self.deposits.hold_of, 3)
        self.answers(4, self.deposits.hold, self.account, 50, 0)
        self.answers(0, self.deposits.available, self.account)
        self.fails(Refused, self.deposits.hold, self.account, 1, 0)

    def test_just_available(self):
        self.fails(Refused, self.deposits.hold, self.account, 101, 0)
        self.answers(1, self.deposits.hold, self.account, 100, 0)
        self.deposits.set_limit(self.account, 5)
        self.fails(Refused, self.deposits.hold, self.account, 6, 0)
        self.answers(2, self.deposits.hold, self.account, 5, 0)
        self.answers(0, self.deposits.available, self.account)

    def test_wrong(self):
        for amount in NO_AMOUNTS:
            for day in [0, -1, LAST_DAY + 1]:
                self.fails(BadValue, self.deposits.hold, self.account, amount, day)
        for day in NO_DAYS:
            for amount in [1, 100, 101]:
                self.fails(BadDay, self.deposits.hold, self.account, amount, day)
        self.answers(1, self.deposits.hold, self.account, 1, LAST_DAY)

    def test_release(self):
        self.deposits.hold(self.account, 30, 110)
        self.deposits.hold(self.account, 5, 110)
        self.answers(None, self.deposits.release, 1)
        self.answers((self.account, 30, 110, "released"), self.deposits.hold_of, 1)
        self.answers(5, self.deposits.held, self.account)
        self.answers(95, self.deposits.available, self.account)
        self.fails(Refused, self.deposits.release, 1)
        self.fails(Refused, self.deposits.consume, 1)
        self.answers([2], self.deposits.lapse, 200)

    def test_consume(self):
        self.deposits.hold(self.account, 30, 110)
        self.deposits.hold(self.account, 5, 110)
        self.answers(None, self.deposits.consume, 2)
        self.answers((self.account, 5, 110, "used"), self.deposits.hold_of, 2)
        self.answers(30, self.deposits.held, self.account)
        self.answers(100, self.deposits.own_balance, self.account)
        self.fails(Refused, self.deposits.consume, 2)
        self.fails(Refused, self.deposits.release, 2)
        self.answers([1], self.deposits.lapse, 200)

    def test_lapse(self):
        for until in [110, 112, 111, 110]:
            self.deposits.hold(self.account, 10, until)
        self.answers([], self.deposits.lapse, -5)
        self.answers([], self.deposits.lapse, 110)
        self.answers(40, self.deposits.held, self.account)
        self.answers([1, 4], self.deposits.lapse, 111)
        self.answers(20, self.deposits.held, self.account)
        self.answers((self.account, 10, 110, "lapsed"), self.deposits.hold_of, 1)
        self.answers((self.account, 10, 111, "held"), self.deposits.hold_of, 3)
        self.answers([], self.deposits.lapse, 111)
        self.fails(Refused, self.deposits.release, 1)
        self.fails(Refused, self.deposits.consume, 4)
        self.answers([2, 3], self.deposits.lapse, LAST_DAY + 100)
        self.answers(0, self.deposits.held, self.account)
        self.answers([], self.deposits.lapse, 10 ** 12)

    def test_missing_holds(self):
        self.deposits.hold(self.account, 10, 110)
        for number in [0, -1, 2, 500, 10 ** 12]:
            for call in [self.deposits.release, self.deposits.consume, self.deposits.hold_of]:
                self.fails(Missing, call, number)

    def test_at_most_500(self):
        other = self.deposits.start(self.product, "bob", 0)
        self.deposits.set_limit(other, 5)
        for number in range(1, 501):
            account = other if number % 3 == 0 else self.account
            self.answers(number, self.deposits.hold, account, 2, 110)
            if number % 3 == 1:
                self.deposits.release(number)
            elif number % 3 == 2:
                self.deposits.consume(number)
            else:
                self.assertEqual(self.deposits.lapse(111), [number])
        self.fails(Full, self.deposits.hold, self.account, 2, 110)
        self.fails(Full, self.deposits.hold, other, 2, 110)
        self.fails(Refused, self.deposits.hold, other, 6, 110)
        self.fails(BadDay, self.deposits.hold, other, 6, -1)
        self.fails(BadValue, self.deposits.hold, other, 0, -1)
        self.fails(Missing, self.deposits.hold, 1, 0, -1)
        self.answers(0, self.deposits.held, self.account)
        self.answers((self.account, 2, 110, "used"), self.deposits.hold_of, 500)


class AccrueTest(DepositsCase):

    def by_day(self, account, day, credited=0):
        """The accrued parts as [24] tells them, day by day."""
        product = self.deposits.product_of(account)
        parts = 0
        for at in range(self.deposits.opened_on(account), day + 1):
            parts += product.parts_at(at, -self.ledger.balance(account, None, at))
        return parts - PARTS * credited

    def test_over_several_days(self):
        self.pay_in(100)
        self.pay_in(50, 102)
        self.pay_in(-170, 104)
        self.answers(0, self.deposits.accrued, self.account)
        total = 0
        for day, balance in [(100, 100), (101, 100), (102, 150), (103, 150), (104, -20), (105, -20)]:
            total += balance * (3600 if balance > 0 else 7200)
            self.answers(total, self.deposits.would_accrue, self.account, day)
            self.answers(total, self.deposits.accrue, self.account, day)
            self.answers(total, self.deposits.accrued, self.account)

    def test_at_one_go(self):
        self.pay_in(100)
        self.pay_in(50, 102)
        self.answers(3600 * 500, self.deposits.accrue, self.account, 103)

    def test_great_spans(self):
        account = self.deposits.start(self.product, "bob", 0)
        self.pay_in(LIMIT, account=account, value=0)
        self.answers(3600 * LIMIT * (LAST_DAY + 1), self.deposits.accrue, account, LAST_DAY)

    def test_versions(self):
        product = Product("save", "EUR", "even")
        account = self.deposits.start(product, "bob", 100)
        self.pay_in(10, account=account)
        self.answers(0, self.deposits.accrue, account, 100)
        product.add_version(102, [(0, 5), (6, 7)], [(0, 0)])
        self.answers(0, self.deposits.accrue, account, 101)
        self.answers(58, self.deposits.accrue, account, 102)
        # A version that is added later counts from its first day on, though that was accrued.
        product.add_version(103, [(0, 1)], [(0, 0)])
        self.answers(78, self.deposits.accrue, account, 104)
        self.answers(78, self.deposits.accrue, account, 104)
        product.add_version(104, [(0, 2)], [(0, 0)])
        self.answers(88, self.deposits.accrue, account, 104)

    def test_version_ahead_of_the_opening(self):
        product = make_product(first=50)
        product.add_version(100, [(0, 10)], [(0, 0)])
        account = self.deposits.start(product, "bob", 100)
        self.pay_in(10, account=account)
        self.answers(100, self.deposits.accrue, account, 100)

    def test_later_entries_with_earlier_value_days(self):
        self.pay_in(100)
        self.answers(3600 * 1100, self.deposits.accrue, self.account, 110)
        self.pay_in(10, 111, 105)
        self.answers(3600 * 1100, self.deposits.accrued, self.account)
        self.answers(3600 * (1100 + 60), self.deposits.accrue, self.account, 110)
        self.answers(3600 * (1100 + 60 + 110), self.deposits.accrue, self.account, 111)
        entry = self.pay_in(7, 112, 109)
        self.ledger.reverse(entry, 113, "")
        self.answers(3600 * (1100 + 60 + 110), self.deposits.accrue, self.account, 111)

    def test_value_days_ahead_of_the_opening_and_to_come(self):
        self.pay_in(100, 100, 40)
        self.pay_in(1000, 100, 102)
        self.answers(3600 * 100, self.deposits.accrue, self.account, 100)
        self.answers(3600 * 200, self.deposits.accrue, self.account, 101)
        self.answers(3600 * 1300, self.deposits.accrue, self.account, 102)

    def test_all_booking_days_count(self):
        self.pay_in(100, 500, 100)
        self.answers(3600 * 100, self.deposits.accrue, self.account, 100)

    def test_days(self):
        self.pay_in(100)
        for day in NO_DAYS + [0, 98, 99]:
            self.fails(BadDay, self.deposits.accrue, self.account, day)
            self.fails(BadDay, self.deposits.would_accrue, self.account, day)
        self.answers(3600 * 100, self.deposits.accrue, self.account, 100)
        self.answers(3600 * 100, self.deposits.accrue, self.account, 100)
        self.answers(3600 * 600, self.deposits.accrue, self.account, 105)
        for day in NO_DAYS + [0, 99, 100, 104]:
            self.fails(BadDay, self.deposits.accrue, self.account, day)
            self.fails(BadDay, self.deposits.would_accrue, self.account, day)
        self.answers(3600 * 600, self.deposits.accrue, self.account, 105)
        self.deposits.accrue(self.account, LAST_DAY)
        self.fails(BadDay, self.deposits.accrue, self.account, LAST_DAY - 1)
        self.fails(BadDay, self.deposits.accrue, self.account, LAST_DAY + 1)

    def test_first_accrual_with_no_parts_counts_too(self):
        self.answers(0, self.deposits.accrue, self.account, 105)
        self.fails(BadDay, self.deposits.accrue, self.account, 104)

    def test_would_accrue_changes_nothing(self):
        self.pay_in(100)
        before = self.picture()
        self.answers(3600 * 1100, self.deposits.would_accrue, self.account, 110)
        self.assertEqual(self.picture(), before)
        self.answers(3600 * 100, self.deposits.would_accrue, self.account, 100)
        self.answers(3600 * 100, self.deposits.accrue, self.account, 100)
        self.answers(3600 * 1100, self.deposits.would_accrue, self.account, 110)
        self.answers(3600 * 100, self.deposits.accrued, self.account)
        self.answers(3600 * 200, self.deposits.accrue, self.account, 101)

    def test_states(self):
        self.deposits.freeze(self.account)
        self.pay_in(100)
        self.answers(3600 * 100, self.deposits.would_accrue, self.account, 100)
        self.answers(3600 * 100, self.deposits.accrue, self.account, 100)
        closed = self.deposits.start(self.product, "bob", 0)
        self.deposits.finish(closed)
        for day in [0, 5, -1, LAST_DAY + 1]:
            self.fails(Refused, self.deposits.accrue, closed, day)
            self.fails(Refused, self.deposits.would_accrue, closed, day)

    def test_against_each_day(self):
        for seed in range(25):
            self.setUp()
            source = random.Random(seed)
            product = Product("save", "EUR", source.choice(["down", "up", "even", "away"]))
            account = self.deposits.start(product, "bob", 10)
            day, first, credited = 10, 0, 0
            for _ in range(12):
                day += source.randrange(6)
                first += source.randint(1, 8)
                tiers = [(0, source.randrange(10001)), (source.randint(1, 300), source.randrange(10001))]
                product.add_version(first, tiers, [(0, source.randrange(10001))])
                for _ in range(source.randrange(4)):
                    self.pay_in(source.choice([-1, 1]) * source.randint(1, 900), day, source.randrange(90), account)
                if source.randrange(3) > 0:
                    expected = self.by_day(account, day, credited)
                    self.answers(expected, self.deposits.would_accrue, account, day)
                    self.answers(expected, self.deposits.accrue, account, day)
                if source.randrange(3) == 0:
                    credited += self.deposits.credit_interest(account, day, CASH, "")


class CreditTest(DepositsCase):

    def accrue_parts(self, parts, way, day=OPENED):
        """A new account, of a product with this way, that has accrued so many parts, below 0 or not."""
        product = Product("test", "EUR", way)
        product.add_version(0, [(0, 1)], [(0, 1)])
        account = self.deposits.start(product, "bob", day)
        left = parts
        while left != 0:
            units = max(-LIMIT, min(LIMIT, left))
            self.pay_in(units, day, day, account)
            self.pay_in(-units, day, min(day + 1, LAST_DAY), account)
            left -= units
        self.answers(parts, self.deposits.accrue, account, day)
        return account

    def test_a_credit(self):
        self.pay_in(1000)
        self.deposits.accrue(self.account, 102)
        self.answers(3 * PARTS, self.deposits.accrued, self.account)
        self.answers(3, self.deposits.credit_interest, self.account, 103, CASH, "interest")
        self.answers((2, 103, 103, "interest", [(3, -3), (1, 3)], None, None), self.ledger.entry, 2)
        self.answers(1003, self.deposits.own_balance, self.account)
        self.answers(0, self.deposits.accrued, self.account)
        self.answers(3600 * 1003, self.deposits.accrue, self.account, 103)
        self.answers(3600 * 1003 * 2, self.deposits.accrue, self.account, 104)

    def test_a_rest_stays(self):
        self.pay_in(700)
        self.deposits.accrue(self.account, 101)
        self.answers(1, self.deposits.credit_interest, self.account, 101, CASH, "")
        self.answers(3600 * 1400 - PARTS, self.deposits.accrued, self.account)
        # The unit has its value on day 101, so that it bears interest from that day on.
        self.answers(3600 * 1401 - PARTS, self.deposits.accrue, self.account, 101)

    def test_rounding(self):
        half = PARTS // 2
        for parts in [1, half - 1, half, half + 1, PARTS - 1, PARTS, PARTS + 1, PARTS + half, 2 * PARTS + half]:
            for way in ["down", "up", "even", "away"]:
                for sign in [1, -1]:
                    self.setUp()
                    account = self.accrue_parts(sign * parts, way)
                    units = divide_rounded(sign * parts, PARTS, way)
                    entries = self.ledger.entries()
                    self.answers(units, self.deposits.credit_interest, account, 100, CASH, "c")
                    self.answers(units, self.deposits.own_balance, account)
                    self.answers(sign * parts - PARTS * units, self.deposits.accrued, account)
                    self.answers(entries + (units != 0), self.ledger.entries)
                    if units != 0:
                        lines = [(account, -units), (CASH, units)]
                        self.answers((entries + 1, 100, 100, "c", lines, None, None), self.ledger.entry, entries + 1)

    def test_negative_interest(self):
        self.pay_in(-500)
        self.deposits.accrue(self.account, 101)
        self.answers(-2 * PARTS, self.deposits.accrued, self.account)
        self.answers(-2, self.deposits.credit_interest, self.account, 101, CASH, "")
        self.answers(-502, self.deposits.own_balance, self.account)
        self.answers([(1, 100, 100, 500), (2, 101, 101, 2)], self.ledger.lines_of, self.account)
        self.answers(0, self.deposits.accrued, self.account)
        # The 2 units have their value on day 101 too.
        self.answers(-7200 * (500 + 502 + 502) + 2 * PARTS, self.deposits.accrue, self.account, 102)

    def test_nothing_to_credit(self):
        """Then the day, the cause and the other account are not looked at."""
        for day, against, cause in [(100, CASH, ""), (-1, CASH, ""), (100, 99, ""), (100, CASH, "c" * 61),
                                    (LAST_DAY + 1, -4, "c" * 61), (100, OTHER_CASH, "")]:
            before = self.picture()
            self.answers(0, self.deposits.credit_interest, self.account, day, against, cause)
            self.assertEqual(self.picture(), before)
        account = self.accrue_parts(PARTS - 1, "down")
        before = self.picture()
        self.answers(0, self.deposits.credit_interest, account, -1, 99, "c" * 61)
        self.assertEqual(self.picture(), before)
        self.answers(PARTS - 1, self.deposits.accrued, account)

    def test_against_itself(self):
        self.fails(Refused, self.deposits.credit_interest, self.account, 100, self.account, "")
        self.pay_in(1000)
        self.deposits.accrue(self.account, 100)
        self.fails(Refused, self.deposits.credit_interest, self.account, -1, self.account, "c" * 61)

    def test_as_post_checks(self):
        self.pay_in(1000)
        self.deposits.accrue(self.account, 101)
        for account in [0, -1, 99]:
            self.fails(Missing, self.deposits.credit_interest, self.account, 101, account, "")
        for day in NO_DAYS + [99]:
            self.fails(BadDay, self.deposits.credit_interest, self.account, day, 99, "c" * 61)
        self.fails(BadValue, self.deposits.credit_interest, self.account, 101, 99, "c" * 61)
        self.fails(BadValue, self.deposits.credit_interest, self.account, 101, OTHER_CASH, "")
        self.answers(2 * PARTS, self.deposits.accrued, self.account)
        self.answers(2, self.deposits.credit_interest, self.account, 100, CASH, "c" * 60)

    def test_too_many_units(self):
        product = Product("dear", "EUR", "even")
        product.add_version(0, [(0, 10000)], [(0, 0)])
        account = self.deposits.start(product, "bob", 0)
        self.pay_in(LIMIT, account=account, value=0)
        self.deposits.accrue(account, 360)
        self.fails(BadValue, self.deposits.credit_interest, account, 360, CASH, "")

    def test_full(self):
        while self.ledger.entries() < 2000:
            self.pay_in(1)
        self.deposits.accrue(self.account, 100)
        self.fails(Full, self.deposits.credit_interest, self.account, 100, CASH, "")
        self.fails(BadDay, self.deposits.credit_interest, self.account, 99, CASH, "")

    def test_the_balance_may_grow_beyond_the_limit(self):
        self.pay_in(LIMIT)
        self.deposits.accrue(self.account, 100)
        self.answers(LIMIT // 1000, self.deposits.credit_interest, self.account, 100, CASH, "")
        self.answers(LIMIT + LIMIT // 1000, self.deposits.own_balance, self.account)

    def test_against_another_deposit_account(self):
        other = self.deposits.start(self.product, "bob", 0)
        self.pay_in(1000)
        self.deposits.accrue(self.account, 100)
        self.answers(1, self.deposits.credit_interest, self.account, 100, other, "")
        self.answers(-1, self.deposits.own_balance, other)

    def test_states(self):
        self.pay_in(1000)
        self.deposits.accrue(self.account, 100)
        self.deposits.freeze(self.account)
        self.answers(1, self.deposits.credit_interest, self.account, 100, CASH, "")
        self.answers(1001, self.deposits.own_balance, self.account)
        closed = self.deposits.start(self.product, "bob", 0)
        self.deposits.finish(closed)
        self.fails(Refused, self.deposits.credit_interest, closed, 100, CASH, "")
        self.fails(Refused, self.deposits.credit_interest, closed, -1, 99, "c" * 61)
        self.fails(Refused, self.deposits.credit_interest, closed, 100, closed, "")

    def test_entries_made_good_behind_a_credit(self):
        self.pay_in(1000)
        self.deposits.accrue(self.account, 101)
        self.deposits.credit_interest(self.account, 101, CASH, "")
        self.ledger.reverse(1, 102, "")
        # The 2 units of day 101 bear interest on two days; what the 1000 had borne is taken back.
        self.answers(3600 * 4 - 2 * PARTS, self.deposits.accrue, self.account, 102)
        self.answers(-2, self.deposits.credit_interest, self.account, 102, CASH, "")
        self.answers(0, self.deposits.own_balance, self.account)


if __name__ == "__main__":
    unittest.main()
