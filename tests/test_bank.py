"""[37] and [38]: how a bank is founded, and the deeds of its users but for transfers, payments and closings."""

import itertools
import unittest

from corebank.amounts import LIMIT
from corebank.bank import Bank
from corebank.days import LAST_DAY
from corebank.errors import BadDay, BadValue, BankError, Full, Missing, NotAllowed, Refused
from tests.helper import FREE, NO_DAYS, NO_NAMES, TIERS, BankCase, Case, raised

NO_CURRENCIES = ["", "EU", "EURO", "eur", "EUr", "E R", "123", "EU1"]
NO_ACCOUNTS = [0, -1, 1, 2, 6, 99, 1000]
NO_AMOUNTS = [0, -1, LIMIT + 1]
RANKS = {"teller": 0, "officer": 1, "chief": 2}
# By the table: the role, and arguments of the right number that no bank takes.
DEEDS = {
    "hire": ("chief", ["", "x"]),
    "rule": ("chief", ["", []]),
    "product": ("officer", ["", "x"]),
    "version": ("officer", ["", -1, [], []]),
    "start": ("teller", ["", ""]),
    "limit": ("officer", [0, -1]),
    "freeze": ("officer", [0]),
    "thaw": ("officer", [0]),
    "finish": ("officer", [0]),
    "cashin": ("teller", [0, 0, -1]),
    "cashout": ("teller", [0, 0, -1]),
    "transfer": ("teller", [0, 0, 0, ""]),
    "grant": ("officer", [0]),
    "reject": ("officer", [0]),
    "withdraw": ("teller", [0]),
    "pay": ("teller", [0, "", 0, 0, ""]),
    "undo": ("chief", [0, "x" * 61]),
    "save": ("teller", []),
    "close": ("chief", []),
    "work": ("teller", [0]),
}
# Those that a bank takes even so.
DONE_ANYHOW = ["save", "close"]


class FoundingTest(Case):

    def test_founded(self):
        for name, currency, day, chief in [("alpha", "EUR", 0, "boss"), ("a", "ABC", LAST_DAY, "alpha"),
                                           ("clearings", "ZZZ", 5, "clearing"), ("mail", "EUR", 100, "mail")]:
            bank = Bank(name, currency, day, chief)
            self.assertEqual((bank.name, bank.currency, bank.day), (name, currency, day))
            sorts = [bank.ledger.sort_of(account) for account in range(1, 7)]
            self.assertEqual(sorts, ["asset", "asset", "debt", "debt", "cost", "equity"])
            for account in range(1, 7):
                self.assertEqual(bank.ledger.currency_of(account), currency)
            self.answers(6, bank.ledger.accounts)
            self.answers(0, bank.ledger.entries)
            self.answers("chief", bank.orders.role_of, chief)
            self.answers([], bank.deposits.numbers)
            for ask in [bank.deeds, bank.outgoing, bank.incoming, bank.pending, bank.outbox]:
                self.answers([], ask)
            self.answers(0, bank.saved)
            self.answers(1, bank.do, chief, "save", [])

    def test_deposits_stand_over_the_ledger(self):
        bank = Bank("alpha", "EUR", 3, "boss")
        self.assertIs(bank.deposits.ledger, bank.ledger)

    def test_wrong_arguments(self):
        good = ["alpha", "EUR", 100, "boss"]
        # In the order in which they are checked.
        wrong = [(NO_NAMES + ["clearing"], BadValue), (NO_CURRENCIES, BadValue), (NO_DAYS, BadDay), (NO_NAMES, BadValue)]
        for place, (values, error) in enumerate(wrong):
            for value in values:
                self.raises(error, Bank, *(good[:place] + [value] + good[place + 1:]))
        for one, two in itertools.combinations(range(4), 2):
            for value, other in itertools.product(wrong[one][0], wrong[two][0]):
                told = list(good)
                told[one], told[two] = value, other
                self.raises(wrong[one][1], Bank, *told)


class ChecksTest(BankCase):
    """What is checked ahead of every deed, in this order: closing, deed, number of arguments, role, room."""

    def test_no_such_deed(self):
        for deed in ["", "Hire", "open", "hire ", "mail", "fund", "crash", "accrue", "save all", "transfers"]:
            for by in ["boss", "ted", "stranger", "mail"]:
                for arguments in [[], ["a"], [1, 2]]:
                    self.fails(BadValue, by, deed, *arguments)

    def test_number_of_arguments(self):
        for deed, (_, arguments) in DEEDS.items():
            for many in range(8):
                if many != len(arguments):
                    for by in ["boss", "ted", "stranger"]:
                        self.fails(BadValue, by, deed, *(arguments + [1] * 8)[:many])

    def test_roles(self):
        users = {"ted": "teller", "olga": "officer", "boss": "chief"}
        for deed, (role, arguments) in DEEDS.items():
            for by in ["stranger", "", "TED", "alpha", "mail"]:
                self.fails(NotAllowed, by, deed, *arguments)
            for by, own in users.items():
                if RANKS[own] < RANKS[role]:
                    self.fails(NotAllowed, by, deed, *arguments)
                elif deed not in DONE_ANYHOW:
                    self.assertNotIn(raised(self.bank.do, by, deed, arguments), [None, NotAllowed], deed)
        for number, by in enumerate(users):
            self.deed_answers(9 + number, by, "save")

    def test_in_the_middle_of_a_closing(self):
        self.do("boss", "close")
        for _ in range(3):
            for deed, (_, arguments) in DEEDS.items():
                for by in ["boss", "olga", "ted", "stranger"]:
                    if deed != "work":
                        self.fails(Refused, by, deed, *arguments)
                        self.fails(Refused, by, deed, *(arguments + [1]))
            self.fails(Refused, "boss", "nothing")
            self.fails(Refused, "stranger", "", 1)
            self.do("ted", "work", 1)
        self.fails(BadValue, "ted", "work")
        self.fails(BadValue, "ted", "work", 1, 1)
        self.fails(NotAllowed, "stranger", "work", 1)
        self.do("ted", "work", 1)
        self.assertEqual(self.bank.day, self.DAY + 1)
        self.do("ted", "save")

    def test_room(self):
        self.fill_deeds(2999)
        self.do("ted", "cashin", self.ann, 5, self.DAY)
        for deed, (role, arguments) in DEEDS.items():
            self.raises(Full, self.bank.do, "boss", deed, arguments)
            self.raises(BadValue, self.bank.do, "boss", deed, arguments + [1])
            self.raises(NotAllowed, self.bank.do, "stranger", deed, arguments)
        self.raises(BadValue, self.bank.do, "boss", "nothing", [])
        self.fails(Full, "ted", "cashin", self.ann, 5, self.DAY)
        self.unchanged(Full, self.bank.fund, 5)
        self.unchanged(BadValue, self.bank.fund, 0)
        self.unchanged(Full, self.bank.receive, "")
        self.answers(2999, self.bank.saved)
        self.assertEqual(len(self.bank.deeds()), 3000)

    def test_room_in_the_middle_of_a_closing(self):
        self.fill_deeds(2999)
        self.do("boss", "close")
        self.fails(Full, "ted", "work", 1)
        self.fails(Full, "ted", "work", 0)
        self.fails(BadValue, "ted", "work")
        self.fails(NotAllowed, "stranger", "work", 1)
        self.fails(Refused, "ted", "save")
        self.unchanged(Refused, self.bank.fund, 5)
        self.unchanged(Refused, self.bank.receive, "")


class RecordsTest(BankCase):

    def test_deeds(self):
        self.assertEqual(self.bank.deeds(), [
            (1, 100, "boss", "hire", ["olga", "officer"], None),
            (2, 100, "boss", "hire", ["ted", "teller"], None),
            (3, 100, "olga", "product", ["save", "down"], None),
            (4, 100, "olga", "version", ["save", 100, TIERS, FREE], None),
            (5, 100, "ted", "start", ["save", "ann"], 7),
            (6, 100, "ted", "start", ["save", "bob"], 8),
            (7, 100, "ted", "cashin", [7, 1000, 100], 1),
            (8, 100, "ted", "cashin", [8, 500, 100], 2),
        ])
        for deed in self.bank.deeds():
            self.assertEqual([type(part) for part in deed[:5]], [int, int, str, str, list])

    def test_day_is_that_ahead_of_the_deed(self):
        self.do("boss", "close")
        self.do("ted", "work", 3)
        self.do("ted", "work", 3)
        self.do("ted", "save")
        self.assertEqual([deed[:2] for deed in self.bank.deeds()[8:]], [(9, 100), (10, 100), (11, 100), (12, 101)])

    def test_lists_are_not_kept(self):
        rows, credit, debit = [(0, 1, "officer")], [(0, 5)], [(0, 6)]
        told = ["kind", rows]
        self.bank.do("boss", "rule", told)
        self.do("olga", "version", "save", 150, credit, debit)
        self.assertEqual((told, rows, credit, debit), (["kind", rows], [(0, 1, "officer")], [(0, 5)], [(0, 6)]))
        before = self.bank.deeds()
        told.append("x")
        for given in [rows, credit, debit]:
            given.append((7, 7, "chief"))
        self.assertEqual(self.bank.deeds(), before)
        self.assertEqual(before[8][4], ["kind", [(0, 1, "officer")]])
        self.assertEqual(before[9][4], ["save", 150, [(0, 5)], [(0, 6)]])
        handed_out = self.bank.deeds()
        handed_out[8][4][1].append("x")
        handed_out[9][4][2].clear()
        handed_out[9][4].append("x")
        handed_out.clear()
        self.assertEqual(self.bank.deeds(), before)
        self.assertEqual(self.bank.orders.place("ted", "kind", 5, "k", 200), 1)
        self.assertEqual(self.order_state(1), "waiting")

    def test_a_deed_that_raises_is_not_recorded(self):
        self.fails(Missing, "ted", "cashin", 99, 5, 100)
        self.fails(Refused, "boss", "hire", "ted", "teller")
        self.deed_answers(None, "boss", "hire", "tom", "teller")


class UsersTest(BankCase):

    def test_hire(self):
        for name, role in [("tom", "teller"), ("otto", "officer"), ("cleo", "chief"), ("mail", "teller"), ("clearing", "chief")]:
            self.deed_answers(None, "boss", "hire", name, role)
            self.answers(role, self.bank.orders.role_of, name)
        self.deed_answers(None, "cleo", "hire", "tim", "teller")
        self.deed_answers(15, "mail", "save")

    def test_wrong_hire(self):
        for name in NO_NAMES:
            for role in ["teller", "x"]:
                self.fails(BadValue, "boss", "hire", name, role)
        for name in ["tom", "ted", "boss"]:
            self.fails(BadValue, "boss", "hire", name, "Teller")
        for name in ["ted", "boss", "olga"]:
            self.fails(Refused, "boss", "hire", name, "chief")

    def test_rule(self):
        self.deed_answers(None, "boss", "rule", "transfer", [(0, 0, "teller"), (100, 2, "chief")])
        small = self.do("ted", "transfer", self.ann, self.bob, 99, "small")
        large = self.do("ted", "transfer", self.ann, self.bob, 100, "large")
        self.assertEqual(self.bank.orders.order(small)[5:], (0, None, [], "done"))
        self.assertEqual(self.bank.orders.order(large)[5:], (2, "chief", [], "waiting"))

    def test_wrong_rule(self):
        for kind in NO_NAMES:
            self.fails(BadValue, "boss", "rule", kind, [(0, 1, "officer")])
        for rows in [[], [(1, 0, "teller")], [(0, 6, "teller")], [(0, 0, "x")], [(0, 0, "teller")] * 2]:
            self.fails(BadValue, "boss", "rule", "transfer", rows)


class ProductsTest(BankCase):

    def test_product(self):
        for name, way in [("a", "down"), ("b", "up"), ("c", "even"), ("d", "away")]:
            self.deed_answers(None, "olga", "product", name, way)
            account = self.do("ted", "start", name, "ann")
            product = self.bank.deposits.product_of(account)
            self.assertEqual((product.name, product.currency, product.way), (name, "EUR", way))
            self.answers(None, product.version_at, LAST_DAY)

    def test_wrong_product(self):
        for name in NO_NAMES + ["save", "new"]:
            for way in ["", "Down", "nearest", "none"]:
                self.fails(BadValue, "olga", "product", name, way)
        for name in NO_NAMES:
            self.fails(BadValue, "olga", "product", name, "up")
        for way in ["down", "up"]:
            self.fails(Refused, "olga", "product", "save", way)

    def test_version(self):
        product = self.bank.deposits.product_of(self.ann)
        for place, first in enumerate([101, 102, 500, LAST_DAY]):
            self.deed_answers(None, "olga", "version", "save", first, [(0, place)], [(0, 9), (50, 10)])
            self.answers(place + 1, product.version_at, first)
            self.answers(place * 10, product.parts_at, first, 10)
            self.answers(-9 * 50 - 10, product.parts_at, first, -51)

    def test_version_on_the_bank_s_day(self):
        self.do("olga", "product", "new", "up")
        product = self.bank.deposits.product_of(self.do("ted", "start", "new", "ann"))
        self.fails(BadDay, "olga", "version", "new", 99, TIERS, FREE)
        self.fails(BadDay, "olga", "version", "new", 99, [], [])
        self.answers(None, product.version_at, LAST_DAY)
        self.deed_answers(None, "olga", "version", "new", 100, TIERS, FREE)
        self.answers(0, product.version_at, 100)

    def test_wrong_version(self):
        for name in ["", "other", "Save"]:
            self.fails(Missing, "olga", "version", name, -1, [], [])
            self.fails(Missing, "olga", "version", name, 101, TIERS, FREE)
        for first in [99, 0, -1, LAST_DAY + 1, 100]:
            self.fails(BadDay, "olga", "version", "save", first, [], [])
            self.fails(BadDay, "olga", "version", "save", first, TIERS, FREE)
        for tiers in [[], [(1, 0)], [(0, 10001)], [(0, 0)] * 2]:
            self.fails(BadValue, "olga", "version", "save", 101, tiers, FREE)
            self.fails(BadValue, "olga", "version", "save", 101, TIERS, tiers)
        for first in range(101, 120):
            self.do("olga", "version", "save", first, TIERS, FREE)
        self.fails(Full, "olga", "version", "save", 120, TIERS, FREE)
        self.fails(BadValue, "olga", "version", "save", 120, [], FREE)
        self.fails(BadDay, "olga", "version", "save", 119, TIERS, FREE)


class AccountsTest(BankCase):

    def test_start(self):
        for number, owner in [(9, "ann"), (10, "carl"), (11, "clearing")]:
            self.deed_answers(number, "ted", "start", "save", owner)
            deposits = self.bank.deposits
            self.answers(owner, deposits.owner_of, number)
            self.answers(100, deposits.opened_on, number)
            self.answers("open", deposits.state_of, number)
            self.answers(0, deposits.limit_of, number)
            self.answers("debt", self.bank.ledger.sort_of, number)
            self.answers("EUR", self.bank.ledger.currency_of, number)
            self.assertIs(deposits.product_of(number), deposits.product_of(7))
        self.close_day()
        self.do("ted", "start", "save", "dora")
        self.answers(101, self.bank.deposits.opened_on, 12)

    def test_wrong_start(self):
        for name in ["", "other", "SAVE"]:
            for owner in ["ann", ""]:
                self.fails(Missing, "ted", "start", name, owner)
        for owner in NO_NAMES:
            self.fails(BadValue, "ted", "start", "save", owner)

    def test_no_room_for_an_account(self):
        for number in range(9, 201):
            self.answers(number, self.do, "ted", "start", "save", "ann")
        self.fails(Full, "ted", "start", "save", "ann")
        self.fails(BadValue, "ted", "start", "save", "")
        self.fails(Missing, "ted", "start", "other", "ann")

    def test_limit(self):
        for limit in [0, 1, LIMIT, 300]:
            self.deed_answers(None, "olga", "limit", self.ann, limit)
            self.answers(limit, self.bank.deposits.limit_of, self.ann)
        self.do("olga", "freeze", self.ann)
        self.deed_answers(None, "olga", "limit", self.ann, 5)

    def test_wrong_limit(self):
        closed = self.do("ted", "start", "save", "carl")
        self.do("olga", "finish", closed)
        for account in NO_ACCOUNTS:
            self.fails(Missing, "olga", "limit", account, -1)
        for account in [self.ann, closed]:
            for limit in [-1, LIMIT + 1]:
                self.fails(BadValue, "olga", "limit", account, limit)
        self.fails(Refused, "olga", "limit", closed, 0)

    def test_freeze_and_thaw(self):
        for _ in range(2):
            self.deed_answers(None, "olga", "freeze", self.ann)
            self.answers("frozen", self.bank.deposits.state_of, self.ann)
            self.fails(Refused, "olga", "freeze", self.ann)
            self.deed_answers(None, "olga", "thaw", self.ann)
            self.answers("open", self.bank.deposits.state_of, self.ann)
            self.fails(Refused, "olga", "thaw", self.ann)
        for account in NO_ACCOUNTS:
            self.fails(Missing, "olga", "freeze", account)
            self.fails(Missing, "olga", "thaw", account)
        closed = self.do("ted", "start", "save", "carl")
        self.do("olga", "finish", closed)
        self.fails(Refused, "olga", "freeze", closed)
        self.fails(Refused, "olga", "thaw", closed)


class FinishTest(BankCase):

    def finished(self, account):
        """Finish an account that can be closed."""
        self.deed_answers(None, "olga", "finish", account)
        self.answers("closed", self.bank.deposits.state_of, account)
        self.answers(0, self.bank.deposits.accrued, account)

    def test_no_such_account(self):
        for account in NO_ACCOUNTS:
            self.fails(Missing, "olga", "finish", account)

    def test_opened_today(self):
        account = self.do("ted", "start", "save", "carl")
        self.finished(account)
        self.fails(Refused, "olga", "finish", account)

    def test_opened_today_on_day_0(self):
        self.found(0)
        account = self.do("ted", "start", "save", "carl")
        self.finished(account)

    def test_evened_out_on_the_opening_day(self):
        self.do("ted", "cashout", self.ann, 1000, 100)
        self.finished(self.ann)

    def test_money_is_left(self):
        self.fails(Refused, "olga", "finish", self.ann)
        self.do("olga", "limit", self.ann, 100)
        self.do("ted", "cashout", self.ann, 1001, 100)
        self.fails(Refused, "olga", "finish", self.ann)
        self.do("ted", "cashin", self.ann, 1, 100)
        self.finished(self.ann)

    def test_not_open(self):
        account = self.do("ted", "start", "save", "carl")
        self.do("olga", "freeze", account)
        self.fails(Refused, "olga", "finish", account)
        self.do("olga", "thaw", account)
        self.finished(account)
        self.fails(Refused, "olga", "finish", account)

    def test_held(self):
        account = self.do("ted", "start", "save", "carl")
        self.do("olga", "limit", account, 10)
        self.do("boss", "rule", "transfer", [(0, 1, "officer")])
        order = self.do("ted", "transfer", account, self.bob, 10, "key")
        self.fails(Refused, "olga", "finish", account)
        self.do("olga", "reject", order)
        self.finished(account)

    def test_evened_out_yesterday(self):
        self.do("ted", "cashout", self.ann, 1000, 100)
        self.close_day()
        self.finished(self.ann)
        self.raises(Refused, self.bank.deposits.would_accrue, self.ann, 101)

    def test_interest_of_yesterday(self):
        self.close_day()
        # 1000 units bear one unit a day at 36 percent.
        self.answers(3600000, self.bank.deposits.accrued, self.ann)
        self.do("ted", "cashout", self.ann, 1000, 101)
        self.fails(Refused, "olga", "finish", self.ann)
        self.assertEqual(self.bank.deposits.accrued(self.ann), 3600000)

    def test_evened_out_as_of_yesterday(self):
        self.close_day()
        self.do("ted", "cashout", self.ann, 1000, 100)
        # What was accrued is not there any more, as of the value day; the last accrual does not know it yet.
        self.answers(3600000, self.bank.deposits.accrued, self.ann)
        self.answers(0, self.bank.deposits.would_accrue, self.ann, 100)
        self.finished(self.ann)

    def test_refused_ahead_of_the_accrual(self):
        """With nothing to accrue any more, what is refused leaves what the last accrual told."""
        self.do("boss", "rule", "transfer", [(0, 1, "officer")])
        self.do("olga", "limit", self.ann, 10)
        self.close_day()
        self.do("ted", "cashout", self.ann, 1000, 100)
        order = self.do("ted", "transfer", self.ann, self.bob, 10, "key")
        self.fails(Refused, "olga", "finish", self.ann)
        self.do("olga", "reject", order)
        self.do("ted", "cashin", self.ann, 5, 101)
        self.fails(Refused, "olga", "finish", self.ann)
        self.do("ted", "cashout", self.ann, 5, 101)
        self.do("olga", "freeze", self.ann)
        self.fails(Refused, "olga", "finish", self.ann)
        self.answers(3600000, self.bank.deposits.accrued, self.ann)
        self.do("olga", "thaw", self.ann)
        self.finished(self.ann)

    def test_only_up_to_yesterday(self):
        account = self.do("ted", "start", "save", "carl")
        self.close_day()
        self.do("ted", "cashin", account, 1000, 101)
        self.do("ted", "cashout", account, 1000, 101)
        self.finished(account)

    def test_a_day_ago_counts(self):
        account = self.do("ted", "start", "save", "carl")
        self.close_day()
        self.do("ted", "cashin", account, 1000, 100)
        self.do("ted", "cashout", account, 1000, 101)
        # Nothing was accrued by the last closing, but one day's interest would be now.
        self.answers(0, self.bank.deposits.accrued, account)
        self.fails(Refused, "olga", "finish", account)
        self.do("ted", "cashin", account, 1000, 101)
        self.do("ted", "cashout", account, 1000, 100)
        self.finished(account)

    def test_interest_credited_and_taken_out(self):
        self.found(120)
        self.assertEqual(self.bank.day, 120)
        self.do("ted", "cashout", self.bob, 500, 120)
        self.close_day()
        # April 30 of 2000 is day 120: the interest of the month is one unit.
        self.answers(1001, self.own, self.ann)
        self.fails(Refused, "olga", "finish", self.ann)
        self.do("ted", "cashout", self.ann, 1000, 121)
        self.fails(Refused, "olga", "finish", self.ann)
        # The unit bears interest itself on its value day, day 120, unless it is taken out as of that day.
        self.do("ted", "cashout", self.ann, 1, 120)
        self.finished(self.ann)
        self.finished(self.bob)
        self.deed_answers(2, "boss", "close")

    def test_parts_are_left(self):
        self.do("ted", "cashout", self.ann, 999, 100)
        self.close_day()
        self.do("ted", "cashout", self.ann, 1, 101)
        self.answers(3600, self.bank.deposits.accrued, self.ann)
        self.fails(Refused, "olga", "finish", self.ann)


class CashTest(BankCase):

    def test_cashin(self):
        self.deed_posts(100, "cash", [(1, 1), (7, -1)], "ted", "cashin", self.ann, 1, 100)
        self.deed_posts(0, "cash", [(1, 30), (8, -30)], "ted", "cashin", self.bob, 30, 0)
        self.deed_posts(99, "cash", [(1, LIMIT - 1001), (7, 1001 - LIMIT)], "ted", "cashin", self.ann, LIMIT - 1001, 99)
        self.answers(LIMIT, self.own, self.ann)
        self.fails(Refused, "ted", "cashin", self.ann, 1, 100)
        self.answers(530, self.own, self.bob)

    def test_greatest_amount(self):
        account = self.do("ted", "start", "save", "carl")
        self.deed_posts(100, "cash", [(1, LIMIT), (account, -LIMIT)], "ted", "cashin", account, LIMIT, 100)
        self.deed_posts(100, "cash", [(1, -LIMIT), (account, LIMIT)], "ted", "cashout", account, LIMIT, 100)

    def test_cashout(self):
        self.deed_posts(100, "cash", [(1, -1), (7, 1)], "ted", "cashout", self.ann, 1, 100)
        self.deed_posts(0, "cash", [(1, -999), (7, 999)], "ted", "cashout", self.ann, 999, 0)
        self.fails(Refused, "ted", "cashout", self.ann, 1, 100)
        self.do("olga", "limit", self.ann, 1)
        self.deed_posts(50, "cash", [(1, -1), (7, 1)], "ted", "cashout", self.ann, 1, 50)
        self.answers(-1, self.own, self.ann)
        self.fails(Refused, "ted", "cashout", self.ann, 1, 100)

    def test_wrong_cash(self):
        for deed in ["cashin", "cashout"]:
            for account in NO_ACCOUNTS:
                self.fails(Missing, "ted", deed, account, 0, -1)
                self.fails(Missing, "ted", deed, account, 5, 100)
            for amount in NO_AMOUNTS:
                self.fails(BadValue, "ted", deed, self.ann, amount, 100)
                self.fails(BadValue, "ted", deed, self.ann, amount, -1)
            self.fails(Refused, "ted", deed, self.ann, LIMIT, 100)
            self.fails(Refused, "ted", deed, self.ann, LIMIT, 101)
            for value in [-1, 101, LAST_DAY, LAST_DAY + 1]:
                self.fails(BadDay, "ted", deed, self.ann, 5, value)
            self.do("olga", "freeze", self.bob)
            self.fails(Refused, "ted", deed, self.bob, 5, 100)
            self.fails(Refused, "ted", deed, self.bob, 5, 101)
            self.fails(BadValue, "ted", deed, self.bob, 0, 101)
            self.do("olga", "thaw", self.bob)
        self.close_day()
        self.deed_posts(101, "cash", [(1, 5), (7, -5)], "ted", "cashin", self.ann, 5, 101)
        self.fails(BadDay, "ted", "cashin", self.ann, 5, 102)

    def test_held_money_is_not_handed_out(self):
        self.do("boss", "rule", "transfer", [(0, 1, "officer")])
        self.do("ted", "transfer", self.ann, self.bob, 600, "key")
        self.fails(Refused, "ted", "cashout", self.ann, 401, 100)
        self.do("ted", "cashout", self.ann, 400, 100)

    def test_ledger_is_full(self):
        self.fill_ledger(1999)
        self.deed_posts(100, "cash", [(1, 5), (7, -5)], "ted", "cashin", self.ann, 5, 100)
        self.fails(Full, "ted", "cashin", self.ann, 5, 100)
        self.fails(Full, "ted", "cashout", self.ann, 5, 100)
        self.fails(BadDay, "ted", "cashout", self.ann, 5, 101)
        self.fails(Full, "boss", "undo", 1, "cash")
        self.fails(Full, "ted", "pay", self.ann, "beta", 7, 5, "key")
        self.unchanged(Full, self.bank.fund, 5)
        self.unchanged(Full, self.bank.receive, "")


class UndoTest(BankCase):

    def undone(self, entry, new, valued, cause, lines):
        """The entry is undone by a new one."""
        self.deed_answers(new, "boss", "undo", entry, cause)
        self.assertEqual(self.bank.ledger.entry(new), (new, self.bank.day, valued, cause, lines, entry, None))
        self.assertEqual(self.bank.ledger.entry(entry)[6], new)

    def test_undo(self):
        out = self.do("ted", "cashout", self.ann, 300, 40)
        self.undone(out, 4, 40, "wrong", [(1, 300), (7, -300)])
        self.answers(1000, self.own, self.ann)
        self.close_day()
        self.undone(1, 5, 100, "x" * 60, [(1, -1000), (7, 1000)])
        self.undone(2, 6, 100, "", [(1, -500), (8, 500)])
        self.assertEqual(self.bank.ledger.entry(6)[1], 101)
        self.answers(0, self.own, self.ann)

    def test_below_0(self):
        self.do("ted", "cashout", self.ann, 1000, 100)
        self.undone(1, 4, 100, "wrong", [(1, -1000), (7, 1000)])
        self.answers(-1000, self.own, self.ann)

    def test_frozen(self):
        self.do("olga", "freeze", self.ann)
        self.undone(1, 3, 100, "wrong", [(1, -1000), (7, 1000)])

    def test_no_such_entry(self):
        for entry in [0, -1, 3, 99]:
            self.fails(Missing, "boss", "undo", entry, "wrong")
            self.fails(Missing, "boss", "undo", entry, "x" * 61)

    def test_undone_before(self):
        for cause in ["wrong", "cash"]:
            entry = self.do("ted", "cashin", self.ann, 5, 100)
            new = self.do("boss", "undo", entry, cause)
            self.fails(Refused, "boss", "undo", entry, "wrong")
            self.fails(Refused, "boss", "undo", entry, "x" * 61)
            self.fails(Refused, "boss", "undo", new, "wrong")
            self.fails(Refused, "boss", "undo", new, "x" * 61)

    def test_other_causes(self):
        self.do("ted", "transfer", self.ann, self.bob, 5, "key")
        self.do("ted", "pay", self.ann, "beta", 7, 5, "key")
        self.bank.fund(5)
        self.do("ted", "pay", self.ann, "beta", 7, 5, "cash")
        for entry in range(3, 7):
            self.fails(Refused, "boss", "undo", entry, "wrong")
            self.fails(Refused, "boss", "undo", entry, "x" * 61)
        self.assertEqual([self.bank.ledger.entry(entry)[3] for entry in range(3, 7)],
                         ["transfer", "out key", "fund", "out cash"])

    def test_closed_account(self):
        self.do("ted", "cashout", self.ann, 1000, 100)
        self.do("olga", "finish", self.ann)
        for entry in [1, 3]:
            self.fails(Refused, "boss", "undo", entry, "wrong")
            self.fails(Refused, "boss", "undo", entry, "x" * 61)
        self.undone(2, 4, 100, "wrong", [(1, -500), (8, 500)])

    def test_cause_too_long(self):
        self.fails(BadValue, "boss", "undo", 1, "x" * 61)
        self.undone(1, 3, 100, "x" * 60, [(1, -1000), (7, 1000)])

    def test_full(self):
        self.fill_ledger(2000)
        self.fails(Full, "boss", "undo", 1, "wrong")
        self.fails(BadValue, "boss", "undo", 1, "x" * 61)
        self.fails(Missing, "boss", "undo", 2001, "wrong")


class SumsTest(BankCase):

    def test_books_stay_even(self):
        for step in [("ted", "cashin", 7, 5, 90), ("ted", "cashout", 8, 5, 100), ("boss", "undo", 1, "x"),
                     ("ted", "transfer", 8, 7, 9, "k"), ("ted", "pay", 8, "beta", 1, 9, "k")]:
            self.do(*step)
            for booked, value in itertools.product([None, 99, 100], [None, 89, 90, 100]):
                self.assertEqual(sum(self.bank.ledger.sums("EUR", booked, value)), 0)

    def test_errors_are_below_bank_error(self):
        for error in [BadDay, BadValue, Full, Missing, NotAllowed, Refused]:
            self.assertTrue(issubclass(error, BankError))


if __name__ == "__main__":
    unittest.main()
