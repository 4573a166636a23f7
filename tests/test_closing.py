"""[42]: closings of a bank's days, done in parts."""

import random
import unittest

from corebank.chart import INTEREST
from corebank.days import LAST_DAY, date_of, day_of
from corebank.errors import BadValue, Full, NotAllowed, Refused
from corebank.ledger import SORTS
from tests.helper import FREE, TIERS, BankCase, picture_of_bank

APRIL_30 = day_of(2000, 4, 30)
LAPSE = ("lapse",)
EXPIRE = ("expire",)


class ClosingCase(BankCase):

    def close(self):
        """Begin a closing, and return what is pending."""
        count = len(self.bank.pending())
        self.assertEqual(count, 0)
        answer = self.do("boss", "close")
        self.answers(len(self.bank.pending()), lambda: answer)
        return list(self.bank.pending())

    def interest_entries(self):
        """The lines of the account interest."""
        return self.bank.ledger.lines_of(INTEREST)


class ItemsTest(ClosingCase):

    def test_within_a_month(self):
        self.assertEqual(date_of(self.DAY), (2000, 4, 10))
        self.deed_answers(4, "boss", "close")
        self.answers([LAPSE, EXPIRE, ("interest", 7), ("interest", 8)], self.bank.pending)
        for item in self.bank.pending():
            self.assertIs(type(item), tuple)

    def test_without_accounts(self):
        for day in [100, APRIL_30]:
            self.found(day)
            for account, amount in [(self.ann, 1000), (self.bob, 500)]:
                self.do("ted", "cashout", account, amount, day)
                self.do("olga", "finish", account)
            self.deed_answers(2, "boss", "close")
            self.answers([LAPSE, EXPIRE], self.bank.pending)
            self.deed_answers(1, "ted", "work", 1)
            self.answers([EXPIRE], self.bank.pending)
            self.deed_answers(0, "ted", "work", 1)
            self.answers([], self.bank.pending)
            self.assertEqual(self.bank.day, day + 1)

    def test_at_the_end_of_a_month(self):
        self.found(APRIL_30)
        self.deed_answers(6, "boss", "close")
        items = [LAPSE, EXPIRE, ("interest", 7), ("interest", 8), ("capital", 7), ("capital", 8)]
        for left in range(5, -1, -1):
            self.answers(items, self.bank.pending)
            items = items[1:]
            self.deed_answers(left, "ted", "work", 1)
        self.answers([], self.bank.pending)

    def test_each_day_of_some_months(self):
        for year, month, days in [(2000, 2, 29), (2001, 2, 28), (2000, 12, 31), (2004, 2, 29), (2099, 11, 30)]:
            last = day_of(year, month, days)
            for day in [last - 1, last, last + 1]:
                self.found(day)
                kinds = [item[0] for item in self.close()]
                self.assertEqual("capital" in kinds, day == last, (year, month))

    def test_closed_and_frozen_accounts(self):
        self.found(APRIL_30)
        third = self.do("ted", "start", "save", "carl")
        fourth = self.do("ted", "start", "save", "dora")
        self.do("olga", "finish", third)
        self.do("olga", "freeze", self.ann)
        self.assertEqual(self.close(), [LAPSE, EXPIRE, ("interest", 7), ("interest", 8), ("interest", fourth),
                                        ("capital", 7), ("capital", 8), ("capital", fourth)])

    def test_last_day(self):
        self.found(LAST_DAY)
        self.fails(Refused, "boss", "close")
        self.fails(NotAllowed, "olga", "close")
        self.deed_answers(9, "ted", "save")

    def test_the_day_ahead_of_the_last_one(self):
        self.found(LAST_DAY - 1)
        self.assertEqual([item[0] for item in self.close()], ["lapse", "expire", "interest", "interest"])
        self.deed_answers(0, "ted", "work", 1000)
        self.assertEqual(self.bank.day, LAST_DAY)
        self.fails(Refused, "boss", "close")

    def test_list_is_not_kept(self):
        before = self.close()
        self.bank.pending().clear()
        self.bank.pending().append(LAPSE)
        self.answers(before, self.bank.pending)
        self.deed_answers(3, "ted", "work", 1)

    def test_close_twice(self):
        self.close()
        self.fails(Refused, "boss", "close")
        self.do("ted", "work", 1)
        self.fails(Refused, "boss", "close")


class WorkTest(ClosingCase):

    def test_without_a_closing(self):
        for number in [0, -1, 1001, 5000]:
            self.fails(BadValue, "ted", "work", number)
        for number in [1, 500, 1000]:
            self.fails(Refused, "ted", "work", number)
        self.close_day()
        self.fails(Refused, "ted", "work", 1)
        self.fails(BadValue, "ted", "work", 0)

    def test_numbers(self):
        self.close()
        for number in [0, -1, 1001, 5000]:
            self.fails(BadValue, "ted", "work", number)
        self.deed_answers(1, "ted", "work", 3)
        self.deed_answers(0, "ted", "work", 1)
        self.fails(Refused, "ted", "work", 1)
        for number in [4, 5, 1000]:
            self.close()
            self.deed_answers(0, "ted", "work", number)
        self.assertEqual(self.bank.day, 104)

    def test_who_may_work(self):
        self.fails(NotAllowed, "ted", "close")
        self.fails(NotAllowed, "olga", "close")
        self.close()
        self.fails(NotAllowed, "stranger", "work", 1)
        for left, by in [(3, "ted"), (2, "olga"), (1, "boss")]:
            self.deed_answers(left, by, "work", 1)

    def test_day_grows_at_the_end_alone(self):
        self.close()
        for _ in range(3):
            self.do("ted", "work", 1)
            self.assertEqual(self.bank.day, 100)
        self.do("ted", "work", 1)
        self.assertEqual(self.bank.day, 101)

    def test_many_items(self):
        for _ in range(9, 201):
            self.do("ted", "start", "save", "carl")
        self.assertEqual(len(self.close()), 2 + 194)
        self.deed_answers(96, "ted", "work", 100)
        self.assertEqual(self.bank.pending()[0], ("interest", 105))
        self.deed_answers(0, "ted", "work", 1000)


class InterestTest(ClosingCase):

    def test_accrued_item_by_item(self):
        self.close()
        self.do("ted", "work", 2)
        self.answers(0, self.bank.deposits.accrued, self.ann)
        self.do("ted", "work", 1)
        self.answers(3600000, self.bank.deposits.accrued, self.ann)
        self.answers(0, self.bank.deposits.accrued, self.bob)
        self.do("ted", "work", 1)
        self.answers(1800000, self.bank.deposits.accrued, self.bob)
        self.answers([], self.interest_entries)

    def test_accrued_up_to_the_bank_s_day(self):
        for days in range(1, 6):
            self.close_day()
            self.answers(days * 3600000, self.bank.deposits.accrued, self.ann)
            # The last accrual went to the day that was closed, and not beyond it.
            self.assertEqual(self.bank.deposits.would_accrue(self.ann, self.bank.day - 1), days * 3600000)

    def test_capitalized(self):
        self.found(APRIL_30 - 2)
        self.close_day()
        self.close_day()
        self.close()
        self.do("ted", "work", 4)
        self.answers(3 * 3600000, self.bank.deposits.accrued, self.ann)
        self.answers([], self.interest_entries)
        self.do("ted", "work", 1)
        self.assert_last_entry(3, APRIL_30, "interest", [(7, -3), (INTEREST, 3)])
        self.assertEqual(self.bank.ledger.entry(3)[1:3], (APRIL_30, APRIL_30))
        self.answers(0, self.bank.deposits.accrued, self.ann)
        self.do("ted", "work", 1)
        # 500 units bear 1.5 units in three days; the product rounds down.
        self.assertEqual(self.bank.ledger.entry(4)[3:5], ("interest", [(8, -1), (INTEREST, 1)]))
        self.assertEqual(self.bank.ledger.entry(4)[1:3], (APRIL_30, APRIL_30))
        self.answers(1800000, self.bank.deposits.accrued, self.bob)
        self.assertEqual((self.own(self.ann), self.own(self.bob)), (1003, 501))
        self.assertEqual(self.bank.day, APRIL_30 + 1)

    def test_interest_below_0(self):
        self.found(APRIL_30)
        self.do("olga", "product", "loan", "away")
        self.do("olga", "version", "loan", APRIL_30, FREE, TIERS)
        account = self.do("ted", "start", "loan", "carl")
        self.do("olga", "limit", account, 5000)
        self.do("ted", "cashout", account, 1500, APRIL_30)
        self.close_day()
        # One and a half units, rounded away from 0.
        self.assertIn((5, APRIL_30, APRIL_30, -2), self.interest_entries())
        self.answers(-1502, self.own, account)

    def test_nothing_to_capitalize(self):
        self.found(APRIL_30)
        third = self.do("ted", "start", "save", "carl")
        self.close_day()
        # One unit for ann; half a unit of bob, rounded down, and nothing of carl are not posted.
        self.assertEqual([row[3] for row in self.interest_entries()], [1])
        self.answers(0, self.own, third)

    def test_frozen_accounts_bear_interest(self):
        self.found(APRIL_30)
        self.do("olga", "freeze", self.ann)
        self.close_day()
        self.answers(1001, self.own, self.ann)

    def test_full_ledger(self):
        self.found(APRIL_30 - 3)
        for _ in range(3):
            self.close_day()
        self.fill_ledger(1999)
        self.close()
        for left in range(5, 0, -1):
            self.deed_answers(left, "ted", "work", 1)
        self.answers(2000, self.bank.ledger.entries)
        self.assertEqual(self.bank.ledger.entry(2000)[3:5], ("interest", [(7, -4), (INTEREST, 4)]))
        # For bob's two units there is no room: this item is left out, and the parts stay.
        self.deed_answers(0, "ted", "work", 1)
        self.answers(2000, self.bank.ledger.entries)
        self.assertEqual(self.bank.day, APRIL_30 + 1)
        self.answers(4 * 1800000, self.bank.deposits.accrued, self.bob)
        self.answers(500, self.own, self.bob)

    def test_full_ledger_at_once(self):
        self.found(APRIL_30 - 1)
        self.close_day()
        self.fill_ledger(2000)
        self.close()
        self.deed_answers(0, "ted", "work", 1000)
        self.answers([], self.interest_entries)
        self.answers(2 * 3600000, self.bank.deposits.accrued, self.ann)
        self.assertEqual(self.bank.day, APRIL_30 + 1)


class OrdersTest(ClosingCase):

    def test_lapse_and_expire_of_the_next_day(self):
        self.do("boss", "rule", "transfer", [(0, 1, "officer")])
        for day in range(100, 105):
            self.do("ted", "transfer", self.ann, self.bob, 10, "k" + str(day))
            self.close_day()
        self.assertEqual([self.order_state(number) for number in range(1, 6)], ["waiting"] * 5)
        for day in range(105, 110):
            self.close()
            held = [self.bank.deposits.hold_of(number)[3] for number in range(1, 6)]
            self.do("ted", "work", 1)
            lapsed = day - 104
            self.assertEqual(held, ["lapsed"] * (lapsed - 1) + ["held"] * (6 - lapsed))
            held = [self.bank.deposits.hold_of(number)[3] for number in range(1, 6)]
            self.assertEqual(held, ["lapsed"] * lapsed + ["held"] * (5 - lapsed))
            states = [self.order_state(number) for number in range(1, 6)]
            self.assertEqual(states, ["expired"] * (lapsed - 1) + ["waiting"] * (6 - lapsed))
            self.do("ted", "work", 1)
            states = [self.order_state(number) for number in range(1, 6)]
            self.assertEqual(states, ["expired"] * lapsed + ["waiting"] * (5 - lapsed))
            self.do("ted", "work", 1000)


class PartsTest(ClosingCase):
    """Whatever the parts in which a closing is done, the bank is the same behind it, but for its deeds."""

    def prepared(self, day):
        """A bank with accounts and orders of all kinds, in the middle of no closing."""
        self.found(day)
        self.do("boss", "rule", "transfer", [(0, 0, "teller"), (50, 1, "officer")])
        self.do("olga", "product", "loan", "even")
        self.do("olga", "version", "loan", day, [(0, 100), (400, 700)], [(0, 2000), (30, 9000)])
        for owner, product in [("carl", "loan"), ("dora", "save"), ("emil", "loan")]:
            account = self.do("ted", "start", product, owner)
            self.do("olga", "limit", account, 700)
            self.do("ted", "cashin" if owner == "carl" else "cashout", account, 321, day)
        self.do("ted", "transfer", self.ann, self.bob, 77, "k1")
        self.do("ted", "transfer", self.ann, self.bob, 49, "k2")

    def outcome(self):
        """All that can be asked, but for the deeds."""
        picture = picture_of_bank(self.bank)
        return picture[1:4] + picture[5:]

    def test_any_size(self):
        for day in [100, APRIL_30 - 3, APRIL_30]:
            self.prepared(day)
            for _ in range(8):
                self.close_day()
            whole = self.outcome()
            for seed in range(8):
                rng = random.Random(seed)
                self.prepared(day)
                for _ in range(8):
                    pending = self.close()
                    while pending:
                        size = rng.choice([1, 2, 3, 5, 9])
                        pending = pending[size:]
                        self.deed_answers(len(pending), "ted", "work", size)
                        self.answers(pending, self.bank.pending)
                self.assertEqual(self.outcome(), whole, (day, seed))

    def test_books_stay_even(self):
        self.prepared(APRIL_30)
        self.close_day()
        sums = self.bank.ledger.sums("EUR", None, None)
        self.assertEqual(sum(sums), 0)
        self.assertNotEqual(sums[SORTS.index("cost")], 0)

    def test_full_is_raised_ahead_of_the_work(self):
        self.fill_deeds(2999)
        self.close()
        self.fails(Full, "ted", "work", 1000)


if __name__ == "__main__":
    unittest.main()
