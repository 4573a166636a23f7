"""[11] to [16]: accounts, entries, reversals, balances and sums."""

import random
import unittest

from corebank.amounts import LIMIT
from corebank.days import LAST_DAY
from corebank.errors import BadDay, BadValue, Full, Missing, Refused
from corebank.ledger import SORTS, Ledger
from tests.helper import Case

NO_DAYS = [-1, -100, LAST_DAY + 1, 10 ** 9]
PAIR = [(1, 5), (2, -5)]


def small_ledger():
    """Two accounts in EUR, one in USD, one in CHF."""
    ledger = Ledger()
    ledger.open_account("EUR", "asset")
    ledger.open_account("EUR", "debt")
    ledger.open_account("USD", "asset")
    ledger.open_account("CHF", "cost")
    return ledger


def picture(ledger):
    """All that a ledger tells."""
    accounts = range(1, ledger.accounts() + 1)
    entries = range(1, ledger.entries() + 1)
    told = [(ledger.currency_of(a), ledger.sort_of(a), ledger.lines_of(a), ledger.balance(a, None, None)) for a in accounts]
    return told, [ledger.entry(number) for number in entries]


class LedgerCase(Case):

    def setUp(self):
        self.ledger = small_ledger()

    def post_raises(self, error, day, value, cause, lines):
        """Posting raises the error and changes nothing."""
        before = picture(self.ledger)
        self.raises(error, self.ledger.post, day, value, cause, lines)
        self.assertEqual(picture(self.ledger), before)

    def reverse_raises(self, error, number, day, cause):
        before = picture(self.ledger)
        self.raises(error, self.ledger.reverse, number, day, cause)
        self.assertEqual(picture(self.ledger), before)


class AccountsTest(Case):

    def test_sorts(self):
        self.assertEqual(SORTS, ("asset", "debt", "equity", "income", "cost"))
        ledger = Ledger()
        self.answers(0, ledger.accounts)
        self.answers(0, ledger.entries)
        for number, sort in enumerate(SORTS, 1):
            self.answers(number, ledger.open_account, "EUR", sort)
            self.answers(number, ledger.accounts)
            self.answers(sort, ledger.sort_of, number)
            self.answers("EUR", ledger.currency_of, number)
            self.answers([], ledger.lines_of, number)
            self.answers(0, ledger.balance, number, None, None)
        self.answers(0, ledger.entries)

    def test_other_sorts(self):
        ledger = Ledger()
        for sort in ["", "Asset", "assets", "asse", "debt ", "liability", "ASSET"]:
            self.raises(BadValue, ledger.open_account, "EUR", sort)
        self.answers(0, ledger.accounts)

    def test_currencies(self):
        ledger = Ledger()
        for number, currency in enumerate(["AAA", "ZZZ", "AZM", "USD"], 1):
            self.answers(number, ledger.open_account, currency, "asset")
            self.answers(currency, ledger.currency_of, number)
        for currency in ["", "E", "EU", "EURO", "eur", "EUr", "eUR", "EU1", "123", "E R", "   ", "EU@", "EU[", "[[[", "@@@",
                         "EUR ", " EUR"]:
            self.raises(BadValue, ledger.open_account, currency, "asset")
            self.raises(BadValue, ledger.open_account, currency, "other")
        self.answers(4, ledger.accounts)

    def test_at_most_200(self):
        ledger = Ledger()
        for number in range(1, 201):
            self.answers(number, ledger.open_account, "EUR", "income")
        self.raises(Full, ledger.open_account, "EUR", "income")
        self.raises(BadValue, ledger.open_account, "EU", "income")
        self.raises(BadValue, ledger.open_account, "EUR", "incomes")
        self.answers(200, ledger.accounts)
        ledger.post(0, 0, "", [(200, 1), (199, -1)])
        self.answers(1, ledger.balance, 200, None, None)


class PostTest(LedgerCase):

    def test_numbers_and_entries(self):
        self.answers(1, self.ledger.post, 10, 20, "one", [(1, 5), (2, -5)])
        self.answers(2, self.ledger.post, 10, 0, "", [(2, -7), (1, 3), (1, 4)])
        self.answers(2, self.ledger.entries)
        self.answers((1, 10, 20, "one", [(1, 5), (2, -5)], None, None), self.ledger.entry, 1)
        self.answers((2, 10, 0, "", [(2, -7), (1, 3), (1, 4)], None, None), self.ledger.entry, 2)

    def test_days(self):
        for day in NO_DAYS:
            self.post_raises(BadDay, day, 0, "", PAIR)
            self.post_raises(BadDay, 0, day, "", PAIR)
            self.post_raises(BadDay, day, day, "", PAIR)
        self.answers(1, self.ledger.post, 0, LAST_DAY, "", PAIR)
        self.answers(2, self.ledger.post, LAST_DAY, 0, "", PAIR)

    def test_booking_days_do_not_fall(self):
        self.ledger.post(10, 3, "", PAIR)
        self.post_raises(BadDay, 9, 10, "", PAIR)
        self.post_raises(BadDay, 0, 0, "", PAIR)
        self.answers(2, self.ledger.post, 10, 2, "", PAIR)
        self.answers(3, self.ledger.post, 11, 1, "", PAIR)
        self.post_raises(BadDay, 10, 10, "", PAIR)
        self.ledger.post(LAST_DAY, 1, "", PAIR)
        self.post_raises(BadDay, LAST_DAY - 1, 1, "", PAIR)

    def test_causes(self):
        self.answers(1, self.ledger.post, 0, 0, "", PAIR)
        self.answers(2, self.ledger.post, 0, 0, "c" * 60, PAIR)
        self.answers("c" * 60, lambda: self.ledger.entry(2)[3])
        self.post_raises(BadValue, 0, 0, "c" * 61, PAIR)

    def test_number_of_lines(self):
        self.post_raises(BadValue, 0, 0, "", [])
        self.post_raises(BadValue, 0, 0, "", [(1, 5)])
        self.answers(1, self.ledger.post, 0, 0, "", [(1, 5), (2, -5)])
        self.answers(2, self.ledger.post, 0, 0, "", [(1, 1), (2, -1)] * 10)
        self.post_raises(BadValue, 0, 0, "", [(1, 1), (2, -1)] * 10 + [(1, 0)])
        self.post_raises(BadValue, 0, 0, "", [(1, 1), (2, -1)] * 9 + [(1, 1), (1, 1), (2, -2)])
        # The number of lines comes before each line.
        self.post_raises(BadValue, 0, 0, "", [(9, 5)])
        self.post_raises(BadValue, 0, 0, "", [(9, 1), (9, -1)] * 11)

    def test_units(self):
        self.answers(1, self.ledger.post, 0, 0, "", [(1, LIMIT), (2, -LIMIT)])
        self.answers(2, self.ledger.post, 0, 0, "", [(1, -LIMIT), (2, LIMIT)])
        self.answers(3, self.ledger.post, 0, 0, "", [(1, LIMIT), (1, LIMIT), (2, -LIMIT), (2, -LIMIT)])
        self.answers(2 * LIMIT, self.ledger.balance, 1, None, None)
        for wrong in [[(1, LIMIT + 1), (2, -LIMIT - 1)], [(1, LIMIT + 1), (2, -LIMIT), (2, -1)],
                      [(1, -LIMIT - 1), (2, LIMIT), (2, 1)], [(1, 0), (2, 0)], [(1, 5), (2, -5), (1, 0)],
                      [(1, 0), (1, 5), (2, -5)]]:
            self.post_raises(BadValue, 0, 0, "", wrong)

    def test_sums_by_currency(self):
        self.answers(1, self.ledger.post, 0, 0, "", [(1, 5), (3, 7), (2, -5), (3, -7)])
        for wrong in [[(1, 5), (2, -4)], [(1, 5), (3, -5)], [(1, 5), (2, -4), (3, -1)], [(1, 5), (2, -5), (3, 1)],
                      [(3, 2), (4, -2)], [(1, 1), (1, 1)], [(3, 5), (3, -4), (4, -1)]]:
            self.post_raises(BadValue, 0, 0, "", wrong)

    def test_same_account_several_times(self):
        self.answers(1, self.ledger.post, 0, 0, "", [(1, 5), (1, -5)])
        self.answers(2, self.ledger.post, 3, 2, "", [(1, 5), (2, -9), (1, 5), (1, -1)])
        self.answers(9, self.ledger.balance, 1, None, None)
        self.answers([(1, 0, 0, 5), (1, 0, 0, -5), (2, 3, 2, 5), (2, 3, 2, 5), (2, 3, 2, -1)], self.ledger.lines_of, 1)
        self.answers([(2, 3, 2, -9)], self.ledger.lines_of, 2)

    def test_accounts(self):
        for account in [0, -1, -4, 5, 200, 10 ** 12]:
            self.post_raises(Missing, 0, 0, "", [(account, 5), (1, -5)])
            self.post_raises(Missing, 0, 0, "", [(1, 5), (account, -5)])

    def test_two_things_wrong(self):
        self.ledger.post(5, 5, "", PAIR)
        long = "c" * 61
        self.post_raises(BadDay, 4, 0, long, PAIR)
        self.post_raises(BadDay, 5, -1, long, [])
        self.post_raises(BadDay, 4, 0, "", [(9, 1), (1, -1)])
        self.post_raises(BadValue, 5, 0, long, [(9, 1), (1, -1)])
        self.post_raises(BadValue, 5, 0, "", [(9, 1)])
        # Line by line, and the account of a line before its units.
        self.post_raises(Missing, 5, 0, "", [(9, 0), (1, 0)])
        self.post_raises(BadValue, 5, 0, "", [(1, 0), (9, 0)])
        self.post_raises(BadValue, 5, 0, "", [(1, LIMIT + 1), (9, 1)])
        self.post_raises(Missing, 5, 0, "", [(1, 1), (9, LIMIT + 1)])
        self.post_raises(Missing, 5, 0, "", [(1, 1), (2, 1), (9, 1)])

    def test_at_most_2000(self):
        for number in range(1, 2001):
            self.ledger.post(0, 0, "", PAIR)
        self.answers(2000, self.ledger.entries)
        self.post_raises(Full, 0, 0, "", PAIR)
        self.post_raises(BadDay, -1, 0, "", PAIR)
        self.post_raises(BadDay, 0, -1, "", PAIR)
        self.post_raises(BadValue, 0, 0, "c" * 61, PAIR)
        self.post_raises(BadValue, 0, 0, "", [])
        self.post_raises(Missing, 0, 0, "", [(9, 1), (1, -1)])
        self.post_raises(BadValue, 0, 0, "", [(1, 1), (2, -2)])
        self.reverse_raises(Full, 7, 0, "")
        self.reverse_raises(Missing, 2001, 0, "")
        self.answers(10000, self.ledger.balance, 1, None, None)

    def test_lists_are_not_kept(self):
        lines = [(1, 5), (2, -5)]
        self.ledger.post(0, 0, "", lines)
        self.assertEqual(lines, [(1, 5), (2, -5)])
        lines.append((1, 9))
        lines[0] = (2, 8)
        before = picture(self.ledger)
        self.assertEqual(before[1][0][4], [(1, 5), (2, -5)])
        self.ledger.entry(1)[4].append((1, 2))
        self.ledger.lines_of(1).append((1, 0, 0, 2))
        self.ledger.lines_of(2).clear()
        self.ledger.sums("EUR", None, None)[0] = 77
        self.assertEqual(picture(self.ledger), before)
        self.answers([5, -5, 0, 0, 0], self.ledger.sums, "EUR", None, None)


class ReverseTest(LedgerCase):

    def setUp(self):
        LedgerCase.setUp(self)
        self.ledger.post(10, 20, "first", [(1, 5), (3, 2), (2, -4), (2, -1), (3, -2)])
        self.ledger.post(12, 2, "second", PAIR)

    def test_reversal(self):
        self.answers(3, self.ledger.reverse, 1, 15, "wrong")
        self.answers((1, 10, 20, "first", [(1, 5), (3, 2), (2, -4), (2, -1), (3, -2)], None, 3), self.ledger.entry, 1)
        self.answers((3, 15, 20, "wrong", [(1, -5), (3, -2), (2, 4), (2, 1), (3, 2)], 1, None), self.ledger.entry, 3)
        self.answers((2, 12, 2, "second", [(1, 5), (2, -5)], None, None), self.ledger.entry, 2)
        self.answers([(1, 10, 20, 5), (2, 12, 2, 5), (3, 15, 20, -5)], self.ledger.lines_of, 1)
        self.answers(4, self.ledger.reverse, 2, 15, "")
        self.answers(4, lambda: self.ledger.entry(2)[6])
        self.answers(2, lambda: self.ledger.entry(4)[5])

    def test_each_entry_once(self):
        self.ledger.reverse(1, 15, "")
        self.reverse_raises(Refused, 1, 15, "")
        self.reverse_raises(Refused, 3, 15, "")
        self.reverse_raises(Refused, 1, 14, "c" * 61)
        self.reverse_raises(Refused, 3, -1, "c" * 61)
        self.answers(4, self.ledger.reverse, 2, 15, "c" * 60)

    def test_missing(self):
        for number in [0, -1, -2, 3, 2000, 10 ** 12]:
            self.reverse_raises(Missing, number, 15, "")
            self.reverse_raises(Missing, number, -1, "c" * 61)

    def test_as_post_checks(self):
        for day in NO_DAYS + [0, 11]:
            self.reverse_raises(BadDay, 1, day, "")
            self.reverse_raises(BadDay, 1, day, "c" * 61)
        self.reverse_raises(BadValue, 1, 12, "c" * 61)
        self.answers(3, self.ledger.reverse, 1, 12, "")
        self.answers(4, self.ledger.reverse, 2, LAST_DAY, "")

    def test_balances_behind_it(self):
        """[16]: behind a reversal it is as if the entry had not been posted."""
        other = small_ledger()
        other.post(12, 2, "second", PAIR)
        self.ledger.reverse(1, 15, "")
        for booked in [15, 16, 100, None]:
            for value in [0, 2, 19, 20, 21, None]:
                for account in [1, 2, 3, 4]:
                    self.answers(other.balance(account, booked, value), self.ledger.balance, account, booked, value)
        self.answers(5, self.ledger.balance, 1, 11, None)
        self.answers(10, self.ledger.balance, 1, 14, None)


class QuestionsTest(LedgerCase):

    def setUp(self):
        LedgerCase.setUp(self)
        self.ledger.post(10, 20, "", [(1, 1), (2, -1)])
        self.ledger.post(10, 5, "", [(1, 10), (2, -10), (3, 7), (3, -3), (3, -4)])
        self.ledger.post(12, 10, "", [(1, 100), (2, -100)])
        self.ledger.post(30, 10, "", [(1, 1000), (2, -1000)])

    def test_by_booking_day(self):
        for booked, units in [(-1, 0), (0, 0), (9, 0), (10, 11), (11, 11), (12, 111), (29, 111), (30, 1111), (31, 1111),
                              (LAST_DAY + 5, 1111), (None, 1111)]:
            self.answers(units, self.ledger.balance, 1, booked, None)
            self.answers(-units, self.ledger.balance, 2, booked, None)

    def test_by_value_day(self):
        for value, units in [(-1, 0), (0, 0), (4, 0), (5, 10), (9, 10), (10, 1110), (19, 1110), (20, 1111), (21, 1111),
                             (10 ** 9, 1111), (None, 1111)]:
            self.answers(units, self.ledger.balance, 1, None, value)
            self.answers(-units, self.ledger.balance, 2, None, value)

    def test_by_both(self):
        for booked, value, units in [(10, 4, 0), (10, 5, 10), (10, 19, 10), (10, 20, 11), (9, 20, 0), (12, 10, 110),
                                     (12, 9, 10), (12, 20, 111), (11, 10, 10), (30, 10, 1110), (30, 9, 10), (29, 10, 110)]:
            self.answers(units, self.ledger.balance, 1, booked, value)

    def test_day_0_is_no_missing_day(self):
        ledger = small_ledger()
        ledger.post(0, 3, "", PAIR)
        ledger.post(3, 0, "", [(1, 10), (2, -10)])
        self.answers(5, ledger.balance, 1, 0, None)
        self.answers(10, ledger.balance, 1, None, 0)
        self.answers(0, ledger.balance, 1, 0, 0)
        self.answers([5, -5, 0, 0, 0], ledger.sums, "EUR", 0, None)
        self.answers([10, -10, 0, 0, 0], ledger.sums, "EUR", None, 0)

    def test_sums(self):
        ledger = Ledger()
        for sort in SORTS:
            ledger.open_account("EUR", sort)
        for sort in SORTS:
            ledger.open_account("USD", sort)
        ledger.open_account("EUR", "asset")
        ledger.post(1, 9, "", [(1, 50), (2, -10), (3, -20), (4, -30), (5, 4), (11, 6)])
        ledger.post(2, 3, "", [(6, 1), (7, -1)])
        self.answers([56, -10, -20, -30, 4], ledger.sums, "EUR", None, None)
        self.answers([1, -1, 0, 0, 0], ledger.sums, "USD", None, None)
        self.answers([0, 0, 0, 0, 0], ledger.sums, "EUR", 0, None)
        self.answers([56, -10, -20, -30, 4], ledger.sums, "EUR", 1, 9)
        self.answers([0, 0, 0, 0, 0], ledger.sums, "EUR", 1, 8)
        self.answers([0, 0, 0, 0, 0], ledger.sums, "USD", 1, 9)
        self.answers([1, -1, 0, 0, 0], ledger.sums, "USD", 2, 3)
        for currency in ["CHF", "", "eur", "EURO"]:
            self.answers([0, 0, 0, 0, 0], ledger.sums, currency, None, None)
        self.answers([0, 0, 0, 0, 0], Ledger().sums, "EUR", None, None)

    def test_missing(self):
        for account in [0, -1, -4, 5, 10 ** 12]:
            self.raises(Missing, self.ledger.balance, account, None, None)
            self.raises(Missing, self.ledger.balance, account, -1, LAST_DAY + 1)
            for question in [self.ledger.lines_of, self.ledger.currency_of, self.ledger.sort_of]:
                self.raises(Missing, question, account)
        for number in [0, -1, -4, 5, 10 ** 12]:
            self.raises(Missing, self.ledger.entry, number)
        for question in [Ledger().lines_of, Ledger().currency_of, Ledger().sort_of, Ledger().entry]:
            self.raises(Missing, question, 1)

    def test_questions_change_nothing(self):
        before = picture(self.ledger)
        self.ledger.balance(1, 10, 5)
        self.ledger.sums("EUR", 10, 5)
        self.assertEqual(picture(self.ledger), before)


class RandomTest(Case):

    def grow(self, source, ledger, day):
        """Post or reverse something, perhaps."""
        value = source.randrange(40)
        if ledger.entries() > 0 and source.randrange(4) == 0:
            number = source.randint(1, ledger.entries())
            if ledger.entry(number)[5:] == (None, None):
                ledger.reverse(number, day, "")
            return
        units = [source.randint(1, 100) for _ in range(source.randint(1, 4))]
        lines = [(source.choice([1, 2, 3]), part) for part in units] + [(source.choice([1, 2, 3]), -sum(units))]
        ledger.post(day, value, "", lines)

    def check(self, ledger):
        """Each balance is the sum over the lines of the entries; the sums add up to 0."""
        entries = [ledger.entry(number) for number in range(1, ledger.entries() + 1)]
        for booked in [None, 0, 3, 7, 40]:
            for value in [None, 0, 11, 25, 40]:
                totals = {1: 0, 2: 0, 3: 0}
                for _, day, valued, _, lines, _, _ in entries:
                    for account, units in lines:
                        if (booked is None or day <= booked) and (value is None or valued <= value):
                            totals[account] += units
                for account in totals:
                    self.answers(totals[account], ledger.balance, account, booked, value)
                sums = ledger.sums("EUR", booked, value)
                self.assertEqual(sums, [totals[1], totals[2], totals[3], 0, 0])
                self.assertEqual(sum(sums), 0)

    def test_against_the_entries(self):
        for seed in range(15):
            source = random.Random(seed)
            ledger = Ledger()
            for sort in SORTS[:3]:
                ledger.open_account("EUR", sort)
            day = 0
            for _ in range(30):
                day += source.choice([0, 0, 1])
                past = [[ledger.balance(a, day - 1, value) for value in range(40)] for a in (1, 2, 3)]
                self.grow(source, ledger, day)
                self.assertEqual([[ledger.balance(a, day - 1, value) for value in range(40)] for a in (1, 2, 3)], past)
            self.check(ledger)


if __name__ == "__main__":
    unittest.main()
