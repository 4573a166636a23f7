"""[45] to [49]: a system of banks, its mail, settlements, crashes, and what never changes."""

import itertools
import random
import unittest

from corebank.amounts import LIMIT
from corebank.bank import Bank
from corebank.chart import CAPITAL, CASH, CLEARING, NOSTRO, SUSPENSE, TRANSIT
from corebank.clearing import Clearing
from corebank.days import LAST_DAY
from corebank.errors import BadDay, BadValue, BankError, Full, Missing, Refused
from corebank.letters import read_letter, write_letter
from corebank.system import System
from tests.helper import FREE, NO_DAYS, NO_NAMES, TIERS, Case, picture_of_bank

STRANGERS = ["", "delta", "Alpha", "clearing", "boss", "alph"]
NAMES = ["beta", "alpha", "gamma"]


class SystemCase(Case):
    """Three banks, each with an account 7 of 1000 units; alpha and beta have brought 500 to the clearing."""

    def setUp(self):
        self.system = System("EUR", 100, NAMES)
        for name in NAMES:
            self.do(name, "boss", "product", "save", "down")
            self.do(name, "boss", "version", "save", 100, TIERS, FREE)
            self.do(name, "boss", "start", "save", "ann")
            self.do(name, "boss", "cashin", 7, 1000, 100)
            self.do(name, "boss", "save")
        self.system.fund("alpha", 500)
        self.system.fund("beta", 500)

    def bank(self, name):
        return self.system.bank(name)

    def do(self, name, by, deed, *arguments):
        return self.bank(name).do(by, deed, list(arguments))

    def pays(self, name, other, amount, key, there=7, save=True):
        """Pay from account 7 of one bank to an account of another one."""
        self.do(name, "boss", "pay", 7, other, there, amount, key)
        if save:
            self.do(name, "boss", "save")

    def picture(self):
        """All that can be asked of the system."""
        clearing = self.system.clearing
        members = [(name, clearing.balance_of(name), clearing.floor_of(name)) for name in clearing.members()]
        # The clearing's letters and acks are seen in what collect would put behind the mail.
        before = list(self.system.mail)
        self.system.collect()
        collected = self.system.mail[len(before):]
        del self.system.mail[len(before):]
        self.assertEqual(self.system.mail, before)
        banks = [(picture_of_bank(self.bank(name)), self.bank(name).unacknowledged()) for name in NAMES]
        return members, clearing.queue(), before, collected, banks, self.system.quiet(), self.system.total()

    def fails(self, error, function, *arguments):
        """The call raises the error and changes nothing."""
        before = self.picture()
        self.raises(error, function, *arguments)
        self.assertEqual(self.picture(), before, arguments)

    def letters(self):
        """The letters in the mail, without acks, as (kind, sender, receiver, number, fields)."""
        told = [read_letter(text) for text in self.system.mail]
        return [letter for letter in told if letter[0] != "ack"]

    def deliver_all(self):
        """Collect, and deliver all that is in the mail, in order."""
        self.system.collect()
        place = 0
        while place < len(self.system.mail):
            many = len(self.system.mail)
            self.system.deliver(place)
            # A text that stays is passed over.
            place += len(self.system.mail) == many

    def save_all(self):
        for name in NAMES:
            if not self.bank(name).pending():
                self.do(name, "boss", "save")

    def calm(self, settle=True):
        """Deliver, settle and save until nothing is on its way any more."""
        for _ in range(12):
            self.save_all()
            self.deliver_all()
            if settle:
                self.system.settle()
        self.save_all()
        self.deliver_all()

    def own(self, name, account=7):
        return self.bank(name).deposits.own_balance(account)

    def balance(self, name, account):
        return self.bank(name).ledger.balance(account, None, None)

    def state(self, name, key):
        """The state of an outgoing payment."""
        return [row[5] for row in self.bank(name).outgoing() if row[0] == key][0]

    def assert_books_agree(self):
        """What [49] tells of a quiet system."""
        self.assertTrue(self.system.quiet())
        for name in NAMES:
            self.assertEqual(self.balance(name, NOSTRO), self.system.clearing.balance_of(name))
            self.assertEqual(self.balance(name, TRANSIT), 0)


class FoundingTest(Case):

    def test_founded(self):
        for names in [["beta", "alpha"], ["a", "b", "c", "d", "e", "f"], ["boss", "mail"]]:
            system = System("USD", 7, names)
            self.answers(names, system.clearing.members)
            self.answers([], lambda system=system: system.mail)
            self.assertIs(type(system.clearing), Clearing)
            for name in names:
                bank = system.bank(name)
                self.assertIs(type(bank), Bank)
                self.assertIs(system.bank(name), bank)
                self.assertEqual((bank.name, bank.currency, bank.day), (name, "USD", 7))
                self.assertEqual(bank.image(), Bank(name, "USD", 7, "boss").image())
                self.answers(0, system.clearing.balance_of, name)
                self.answers(0, system.clearing.floor_of, name)
            self.answers(True, system.quiet)
            self.answers(0, system.total)

    def test_wrong_arguments(self):
        names = [[], ["a"], list("abcdefg"), ["a", "a"], ["a", "b", "a"], ["clearing", "a"], ["a", "clearing"]]
        names += [["a", name] for name in NO_NAMES] + [[name, "a"] for name in NO_NAMES]
        currencies = ["", "eur", "EU", "EURO"]
        for wrong in names:
            self.raises(BadValue, System, "EUR", 100, wrong)
            for day in NO_DAYS:
                self.raises(BadValue, System, "EUR", day, wrong)
            for currency in currencies:
                self.raises(BadValue, System, currency, 100, wrong)
        for currency in currencies:
            self.raises(BadValue, System, currency, 100, ["a", "b"])
            self.raises(BadValue, System, currency, -1, ["a", "b"])
        for day in NO_DAYS:
            self.raises(BadDay, System, "EUR", day, ["a", "b"])

    def test_names_are_not_kept(self):
        names = ["a", "b"]
        system = System("EUR", 0, names)
        names.append("c")
        self.answers(["a", "b"], system.clearing.members)
        self.raises(Missing, system.bank, "c")
        self.assertEqual(names, ["a", "b", "c"])


class StrangersTest(SystemCase):

    def test_strangers(self):
        for name in STRANGERS:
            self.fails(Missing, self.system.bank, name)
            self.fails(Missing, self.system.crash, name)
            for amount in [5, 0, -1, LIMIT + 1]:
                self.fails(Missing, self.system.fund, name, amount)

    def test_places_that_are_none(self):
        for many in [0, 3]:
            for _ in range(many):
                self.system.collect()
            for place in [-1, -2, len(self.system.mail), len(self.system.mail) + 1, 10 ** 6]:
                self.fails(Missing, self.system.deliver, place)
                self.fails(Missing, self.system.duplicate, place)
                self.fails(Missing, self.system.lose, place)
                for at, sign in [(0, "x"), (-1, "x"), (0, ""), (9999, "xx")]:
                    self.fails(Missing, self.system.spoil, place, at, sign)


class FundTest(SystemCase):

    def test_fund(self):
        for amount, balance in [(1, 1), (LIMIT, LIMIT + 1), (7, LIMIT + 8)]:
            bank = self.bank("gamma")
            entry, deeds = bank.ledger.entries() + 1, len(bank.deeds()) + 1
            self.answers(None, self.system.fund, "gamma", amount)
            self.answers(balance, self.system.clearing.balance_of, "gamma")
            self.assertEqual(bank.ledger.entry(entry), (entry, 100, 100, "fund", [(NOSTRO, amount), (CAPITAL, -amount)], None, None))
            self.assertEqual(bank.deeds()[-1], (deeds, 100, "mail", "fund", [amount], entry))
            self.answers(deeds, bank.saved)
        self.answers(500, self.system.clearing.balance_of, "alpha")

    def test_wrong_amounts(self):
        for amount in [0, -1, LIMIT + 1]:
            self.fails(BadValue, self.system.fund, "alpha", amount)
        self.do("alpha", "boss", "close")
        for amount in [0, -1, LIMIT + 1]:
            self.fails(BadValue, self.system.fund, "alpha", amount)

    def test_in_the_middle_of_a_closing(self):
        self.do("alpha", "boss", "close")
        self.fails(Refused, self.system.fund, "alpha", 5)
        self.do("alpha", "boss", "work", 1000)
        self.answers(None, self.system.fund, "alpha", 5)

    def test_2000_entries(self):
        while self.bank("alpha").ledger.entries() < 2000:
            self.system.fund("alpha", 1)
        balance = self.system.clearing.balance_of("alpha")
        self.raises(Full, self.system.fund, "alpha", 5)
        self.raises(BadValue, self.system.fund, "alpha", 0)
        self.answers(balance, self.system.clearing.balance_of, "alpha")
        self.assertEqual(self.balance("alpha", NOSTRO), balance)


class CollectTest(SystemCase):

    def ack(self, sender, receiver, number):
        return write_letter(("ack", sender, receiver, number, []))

    def test_nothing_but_acks(self):
        acks = [self.ack(name, CLEARING, 0) for name in NAMES] + [self.ack(CLEARING, name, 0) for name in NAMES]
        self.answers(6, self.system.collect)
        self.assertEqual(self.system.mail, acks)
        self.answers(6, self.system.collect)
        self.assertEqual(self.system.mail, acks + acks)

    def test_order(self):
        self.pays("alpha", "beta", 1, "k1")
        self.pays("gamma", "alpha", 600, "k2")
        self.pays("beta", "alpha", 2, "k3")
        self.pays("beta", "nobody", 3, "k4")
        self.pays("beta", "gamma", 4, "k5", save=False)
        self.assertEqual(self.system.mail, [])
        self.answers(4 + 6, self.system.collect)
        letters = [
            ("pay", "beta", CLEARING, 1, ["beta/k3", "alpha", "2", "7"]), ("pay", "beta", CLEARING, 2, ["beta/k4", "nobody", "3", "7"]),
            ("pay", "alpha", CLEARING, 1, ["alpha/k1", "beta", "1", "7"]), ("pay", "gamma", CLEARING, 1, ["gamma/k2", "alpha", "600", "7"]),
        ]
        self.assertEqual([read_letter(text) for text in self.system.mail[:4]], letters)
        acks = [self.ack(name, CLEARING, 0) for name in NAMES] + [self.ack(CLEARING, name, 0) for name in NAMES]
        self.assertEqual(self.system.mail[4:], acks)
        before = list(self.system.mail)
        # Not one of them is acknowledged, so that all are put again.
        self.answers(10, self.system.collect)
        self.assertEqual(self.system.mail, before + before)
        for _ in range(4):
            self.answers(True, self.system.deliver, 0)
        self.answers(["beta/k3", "alpha/k1"], self.system.settle)
        self.system.mail.clear()
        self.answers(4 + 5 + 6, self.system.collect)
        told = [read_letter(text) for text in self.system.mail]
        self.assertEqual(told[:4], letters)
        self.assertEqual(told[4:9], [
            # The refusal came first, then the settlement.
            ("funds", CLEARING, "beta", 1, ["beta/k4", "beta", "3", "0"]), ("settled", CLEARING, "beta", 2, ["beta/k3"]),
            ("funds", CLEARING, "beta", 3, ["alpha/k1", "alpha", "1", "7"]),
            ("funds", CLEARING, "alpha", 1, ["beta/k3", "beta", "2", "7"]), ("settled", CLEARING, "alpha", 2, ["alpha/k1"]),
        ])
        numbers = [2, 1, 1]
        acks = [self.ack(name, CLEARING, 0) for name in NAMES]
        acks += [self.ack(CLEARING, name, number) for name, number in zip(NAMES, numbers)]
        self.assertEqual(self.system.mail[9:], acks)

    def test_acks_of_saved_deeds_alone(self):
        self.pays("alpha", "nobody", 1, "k1")
        self.deliver_all()
        self.deliver_all()
        self.assertEqual(self.state("alpha", "k1"), "returned")
        self.system.collect()
        self.assertIn(self.ack("alpha", CLEARING, 0), self.system.mail)
        self.do("alpha", "boss", "save")
        self.system.collect()
        self.assertIn(self.ack("alpha", CLEARING, 1), self.system.mail)


class MailTest(SystemCase):

    def setUp(self):
        SystemCase.setUp(self)
        self.pays("alpha", "beta", 10, "k1")
        self.pays("alpha", "gamma", 20, "k2")
        self.system.collect()
        self.before = list(self.system.mail)

    def test_deliver_takes_out(self):
        self.answers(True, self.system.deliver, 0)
        self.assertEqual(self.system.mail, self.before[1:])
        self.answers(True, self.system.deliver, 0)
        self.assertEqual(self.system.mail, self.before[2:])
        self.assertEqual(self.system.clearing.queue(), [("alpha/k1", "alpha", "beta", 10), ("alpha/k2", "alpha", "gamma", 20)])
        # An ack of what is acknowledged already has no effect.
        for many in range(6, 0, -1):
            self.answers(False, self.system.deliver, many - 1)
            self.assertEqual(len(self.system.mail), many - 1)

    def test_too_early_and_doubled(self):
        self.answers(False, self.system.deliver, 1)
        self.assertEqual(self.system.mail, self.before[:1] + self.before[2:])
        self.answers([], self.system.clearing.queue)
        self.system.duplicate(0)
        self.answers(True, self.system.deliver, 0)
        self.answers(False, self.system.deliver, len(self.system.mail) - 1)
        self.assertEqual(self.system.mail, self.before[2:])
        self.assertEqual(len(self.system.clearing.queue()), 1)

    def test_acks_take_effect(self):
        self.system.deliver(0)
        self.system.mail.clear()
        self.system.collect()
        # Two letters of alpha, three acks of banks, and then the acks of the clearing: to beta, alpha and gamma.
        self.answers(False, self.system.deliver, 5)
        self.answers(True, self.system.deliver, 5)
        self.assertEqual([read_letter(text)[3] for text in self.bank("alpha").outbox()], [2])
        self.system.collect()
        self.answers(False, self.system.deliver, len(self.system.mail) - 2)

    def test_acks_of_banks_take_effect(self):
        self.system.deliver(0)
        self.system.settle()
        self.deliver_all()
        self.save_all()
        self.system.mail.clear()
        self.system.collect()
        acks = [at for at, text in enumerate(self.system.mail) if read_letter(text)[:3] == ("ack", "beta", CLEARING)]
        self.system.duplicate(acks[0])
        self.answers(True, self.system.deliver, acks[0])
        self.answers(False, self.system.deliver, len(self.system.mail) - 1)
        self.system.mail.clear()
        self.system.collect()
        self.assertEqual([letter[2] for letter in self.letters() if letter[1] == CLEARING], ["alpha"])

    def test_duplicate_and_lose(self):
        self.answers(None, self.system.duplicate, 1)
        self.assertEqual(self.system.mail, self.before + [self.before[1]])
        self.answers(None, self.system.lose, 0)
        self.assertEqual(self.system.mail, self.before[1:] + [self.before[1]])
        self.answers(None, self.system.lose, len(self.system.mail) - 1)
        self.assertEqual(self.system.mail, self.before[1:])
        self.answers([], self.system.clearing.queue)

    def test_spoil(self):
        text = self.before[1]
        for at in [0, 5, len(text) - 1]:
            for sign in ["x", "|", " ", "~", "0"]:
                self.system.mail[1] = text
                if sign == text[at]:
                    continue
                self.answers(None, self.system.spoil, 1, at, sign)
                spoilt = text[:at] + sign + text[at + 1:]
                self.assertEqual(self.system.mail, self.before[:1] + [spoilt] + self.before[2:])
                self.fails(Refused, self.system.spoil, 1, at, text[at])
                self.fails(Refused, self.system.spoil, 1, 0, "y")
                # What is not there comes ahead of what is no letter any more.
                self.fails(BadValue, self.system.spoil, 1, len(text), "y")
                self.fails(BadValue, self.system.spoil, 1, 0, "")

    def test_spoil_by_the_same_sign(self):
        self.answers(None, self.system.spoil, 0, 0, "p")
        self.assertEqual(self.system.mail, self.before)
        self.answers(None, self.system.spoil, 0, 0, "P")

    def test_wrong_spoil(self):
        size = len(self.before[0])
        for at in [-1, -size, size, size + 1, 10 ** 6]:
            for sign in ["x", "", "xy"]:
                self.fails(BadValue, self.system.spoil, 0, at, sign)
        for sign in ["", "xy", "x" * 9]:
            for at in [0, 3, size - 1]:
                self.fails(BadValue, self.system.spoil, 0, at, sign)

    def test_spoilt_letters_are_dropped(self):
        rng = random.Random(46)
        for place in range(len(self.before)):
            for at in range(len(self.before[place])):
                self.system.mail[:] = list(self.before)
                self.system.spoil(place, at, rng.choice([sign for sign in "a|0 9~" if sign != self.before[place][at]]))
                self.answers(False, self.system.deliver, place)
                self.assertEqual(self.system.mail, self.before[:place] + self.before[place + 1:])
        self.answers([], self.system.clearing.queue)


class StayingTest(SystemCase):

    def funds_on_the_way(self):
        """Let letters of the clearing to beta and alpha, and acks, be in the mail."""
        self.pays("alpha", "beta", 10, "k1")
        self.deliver_all()
        self.system.settle()
        self.system.mail.clear()
        self.system.collect()
        return [read_letter(text)[:3] for text in self.system.mail]

    def test_in_the_middle_of_a_closing(self):
        heads = self.funds_on_the_way()
        place = heads.index(("funds", CLEARING, "beta"))
        self.system.duplicate(place)
        self.do("beta", "boss", "close")
        before = self.picture()
        for at in [place, len(self.system.mail) - 1]:
            self.answers(False, self.system.deliver, at)
        self.assertEqual(self.picture(), before)
        self.do("beta", "boss", "work", 2)
        self.answers(False, self.system.deliver, place)
        # Letters for others are taken.
        self.answers(True, self.system.deliver, heads.index(("settled", CLEARING, "alpha")))
        self.do("beta", "boss", "work", 1000)
        place = [read_letter(text)[:3] for text in self.system.mail].index(("funds", CLEARING, "beta"))
        self.answers(True, self.system.deliver, place)
        # The doubled one stays as well while the bank is in the middle of a closing, and is dropped behind it.
        many = len(self.system.mail)
        self.do("beta", "boss", "close")
        self.answers(False, self.system.deliver, many - 1)
        self.assertEqual(len(self.system.mail), many)
        self.do("beta", "boss", "work", 1000)
        self.answers(False, self.system.deliver, many - 1)
        self.assertEqual(len(self.system.mail), many - 1)
        self.assertEqual(self.own("beta"), 1010)

    def test_acks_are_taken_in_the_middle_of_a_closing(self):
        self.pays("alpha", "beta", 10, "k1")
        self.system.collect()
        self.system.deliver(0)
        self.do("alpha", "boss", "close")
        self.system.mail.clear()
        self.system.collect()
        place = self.system.mail.index(write_letter(("ack", CLEARING, "alpha", 1, [])))
        many = len(self.system.mail)
        self.answers(True, self.system.deliver, place)
        self.assertEqual(len(self.system.mail), many - 1)
        self.answers([], self.bank("alpha").outbox)

    def test_spoilt_letters_do_not_stay(self):
        place = self.funds_on_the_way().index(("funds", CLEARING, "beta"))
        self.do("beta", "boss", "close")
        self.system.spoil(place, 3, "x")
        many = len(self.system.mail)
        self.answers(False, self.system.deliver, place)
        self.assertEqual(len(self.system.mail), many - 1)

    def test_3000_deeds(self):
        self.funds_on_the_way()
        while len(self.bank("beta").deeds()) < 3000:
            self.do("beta", "boss", "save")
        self.stays_for_beta()

    def test_2000_entries(self):
        self.funds_on_the_way()
        while self.bank("beta").ledger.entries() < 2000:
            self.system.fund("beta", 1)
        self.stays_for_beta()

    def stays_for_beta(self):
        heads = [read_letter(text)[:3] for text in self.system.mail]
        before = list(self.system.mail)
        deeds = len(self.bank("beta").deeds())
        place = heads.index(("funds", CLEARING, "beta"))
        for _ in range(3):
            self.answers(False, self.system.deliver, place)
            self.assertEqual(self.system.mail, before)
        self.assertEqual(len(self.bank("beta").deeds()), deeds)
        self.assertFalse(self.system.quiet())
        # Acks, and letters to others, are taken.
        self.answers(False, self.system.deliver, heads.index(("ack", CLEARING, "beta")))
        self.answers(True, self.system.deliver, heads.index(("settled", CLEARING, "alpha")))
        self.assertEqual(len(self.system.mail), len(before) - 2)


class PaymentsTest(SystemCase):

    def test_settled(self):
        self.pays("alpha", "beta", 300, "k1")
        self.assertEqual(self.system.stage("alpha/k1"), "bank")
        self.answers(False, self.system.quiet)
        self.deliver_all()
        self.assertEqual(self.system.clearing.queue(), [("alpha/k1", "alpha", "beta", 300)])
        self.answers(["alpha/k1"], self.system.settle)
        self.answers([], self.system.settle)
        self.assertEqual([self.system.clearing.balance_of(name) for name in NAMES], [800, 200, 0])
        self.calm(settle=False)
        self.assertEqual(self.bank("beta").incoming(), [("alpha/k1", "alpha", 300, 7, "booked")])
        self.assertEqual(self.state("alpha", "k1"), "settled")
        self.assertEqual([self.own(name) for name in NAMES], [1300, 700, 1000])
        self.assertEqual(self.system.stage("alpha/k1"), "home")
        self.assert_books_agree()

    def test_not_covered(self):
        self.pays("gamma", "beta", 300, "k1")
        self.calm()
        self.assertEqual(self.system.stage("gamma/k1"), "clearing")
        self.assertFalse(self.system.quiet())
        self.system.fund("gamma", 299)
        self.answers([], self.system.settle)
        self.system.fund("gamma", 1)
        self.answers(["gamma/k1"], self.system.settle)
        self.calm()
        self.assertEqual([self.own(name) for name in NAMES], [1300, 1000, 700])
        self.assert_books_agree()

    def test_ring_without_money(self):
        system = System("EUR", 0, ["a", "b", "c"])
        keys = []
        for name, other in [("a", "b"), ("b", "c"), ("c", "a")]:
            for deed, arguments in [("product", ["save", "down"]), ("start", ["save", "ann"]), ("cashin", [7, 50, 0]),
                                    ("pay", [7, other, 7, 50, "k"]), ("save", [])]:
                system.bank(name).do("boss", deed, arguments)
            keys.append(name + "/k")
        system.collect()
        while system.mail:
            system.deliver(0)
        self.answers(keys, system.settle)

    def test_refused(self):
        for place, other in enumerate(["nobody", "clearing", "delta"]):
            key = "k" + str(place)
            self.pays("alpha", other, 300, key)
            self.deliver_all()
            self.assertEqual(self.system.clearing.queue(), [])
            self.assertEqual(self.system.stage("alpha/" + key), "back")
            self.system.mail.clear()
            self.system.collect()
            self.assertEqual([letter for letter in self.letters() if letter[1] == CLEARING],
                             [("funds", CLEARING, "alpha", place + 1, ["alpha/" + key, "alpha", "300", "0"])])
            self.calm()
            self.assertEqual((self.state("alpha", key), self.own("alpha")), ("returned", 1000))
            self.assertEqual(self.system.stage("alpha/" + key), "home")
            self.assert_books_agree()
            self.assertEqual(self.balance("alpha", NOSTRO), 500)
        self.assertEqual([self.system.clearing.balance_of(name) for name in NAMES], [500, 500, 0])

    def test_returned(self):
        self.pays("alpha", "beta", 300, "k1", there=99)
        self.save_all()
        self.deliver_all()
        self.answers(["alpha/k1"], self.system.settle)
        self.deliver_all()
        self.assertEqual(self.bank("beta").incoming(), [("alpha/k1", "alpha", 300, 99, "returning")])
        self.assertEqual((self.state("alpha", "k1"), self.own("alpha")), ("settled", 700))
        self.assertEqual(self.system.stage("alpha/k1"), "home")
        self.save_all()
        self.deliver_all()
        self.assertEqual(self.system.clearing.queue(), [("alpha/k1/R", "beta", "alpha", 300)])
        self.answers(["alpha/k1/R"], self.system.settle)
        self.system.mail.clear()
        self.system.collect()
        told = [letter for letter in self.letters() if letter[1] == CLEARING]
        self.assertIn(("settled", CLEARING, "beta", 2, ["alpha/k1/R"]), told)
        self.assertIn(("funds", CLEARING, "alpha", 2, ["alpha/k1/R", "beta", "300", "0"]), told)
        self.calm()
        self.assertEqual(self.bank("beta").incoming(), [("alpha/k1", "alpha", 300, 99, "returned")])
        self.assertEqual((self.state("alpha", "k1"), self.own("alpha")), ("returned", 1000))
        self.assertEqual([self.system.clearing.balance_of(name) for name in NAMES], [500, 500, 0])
        self.assert_books_agree()

    def test_letters_of_a_settlement(self):
        self.pays("alpha", "beta", 100, "k1", there=5)
        self.pays("beta", "gamma", 200, "k2", there=1000)
        self.pays("alpha", "gamma", 300, "k3")
        self.system.collect()
        # In another order than that of the banks: alpha's letters first.
        for text in [text for text in self.system.mail if read_letter(text)[1] == "alpha"]:
            self.system.deliver(self.system.mail.index(text))
        self.deliver_all()
        self.answers(["alpha/k1", "alpha/k3", "beta/k2"], self.system.settle)
        self.system.mail.clear()
        self.system.collect()
        self.assertEqual([letter for letter in self.letters() if letter[1] == CLEARING], [
            ("funds", CLEARING, "beta", 1, ["alpha/k1", "alpha", "100", "5"]), ("settled", CLEARING, "beta", 2, ["beta/k2"]),
            ("settled", CLEARING, "alpha", 1, ["alpha/k1"]), ("settled", CLEARING, "alpha", 2, ["alpha/k3"]),
            ("funds", CLEARING, "gamma", 1, ["alpha/k3", "alpha", "300", "7"]),
            ("funds", CLEARING, "gamma", 2, ["beta/k2", "beta", "200", "1000"]),
        ])


class StageTest(SystemCase):

    def test_no_such_payment(self):
        self.pays("alpha", "beta", 5, "k1", there=99)
        for key in ["", "k1", "alpha", "alpha/", "/k1", "beta/k1", "alpha/k2", "alpha/k1/R", "alpha/k1/", "delta/k1", "clearing/k1",
                    "ALPHA/k1", "alpha//k1"]:
            self.answers(None, self.system.stage, key)
        self.calm()
        self.assertEqual(self.bank("beta").incoming()[0][4], "returned")
        for key in ["alpha/k1/R", "beta/k1", "beta/k1/R", "beta/alpha/k1"]:
            self.answers(None, self.system.stage, key)

    def test_way_of_a_settled_payment(self):
        self.pays("alpha", "beta", 5, "k1", save=False)
        self.answers("bank", self.system.stage, "alpha/k1")
        self.system.collect()
        self.answers("bank", self.system.stage, "alpha/k1")
        self.do("alpha", "boss", "save")
        self.system.mail.clear()
        self.system.collect()
        self.answers("bank", self.system.stage, "alpha/k1")
        self.system.deliver(0)
        self.answers("clearing", self.system.stage, "alpha/k1")
        self.system.settle()
        self.answers("paid", self.system.stage, "alpha/k1")
        self.system.mail.clear()
        self.system.collect()
        places = [at for at, letter in enumerate(map(read_letter, self.system.mail)) if letter[0] == "settled"]
        self.system.deliver(places[0])
        self.assertEqual(self.state("alpha", "k1"), "settled")
        self.answers("paid", self.system.stage, "alpha/k1")
        self.calm()
        self.answers("home", self.system.stage, "alpha/k1")

    def test_home_by_incoming_alone(self):
        self.pays("alpha", "beta", 5, "k1")
        self.deliver_all()
        self.system.settle()
        self.system.mail.clear()
        self.system.collect()
        places = [at for at, letter in enumerate(map(read_letter, self.system.mail)) if letter[0] == "funds"]
        self.system.deliver(places[0])
        self.assertEqual(self.state("alpha", "k1"), "made")
        self.answers("home", self.system.stage, "alpha/k1")
        # The bank has not saved that it took the letter.
        self.system.crash("beta")
        self.answers("paid", self.system.stage, "alpha/k1")

    def test_way_of_a_refused_payment(self):
        self.pays("alpha", "nobody", 5, "k1")
        self.answers("bank", self.system.stage, "alpha/k1")
        self.deliver_all()
        self.answers("back", self.system.stage, "alpha/k1")
        self.calm()
        self.answers("home", self.system.stage, "alpha/k1")

    def test_way_of_a_returned_payment(self):
        self.pays("alpha", "beta", 5, "k1", there=99)
        for _ in range(3):
            self.deliver_all()
            self.system.settle()
            self.save_all()
        self.assertEqual(self.state("alpha", "k1"), "settled")
        self.answers("home", self.system.stage, "alpha/k1")
        self.calm()
        self.assertEqual(self.state("alpha", "k1"), "returned")
        self.answers("home", self.system.stage, "alpha/k1")

    def test_key_called_r(self):
        self.pays("alpha", "beta", 5, "R")
        self.answers("bank", self.system.stage, "alpha/R")
        self.calm()
        self.answers("home", self.system.stage, "alpha/R")

    def test_lost_by_a_crash(self):
        self.pays("alpha", "beta", 5, "k1", save=False)
        self.answers("bank", self.system.stage, "alpha/k1")
        self.system.crash("alpha")
        self.answers(None, self.system.stage, "alpha/k1")


class CrashTest(SystemCase):

    def test_crash(self):
        self.pays("alpha", "beta", 5, "k1")
        self.do("alpha", "boss", "cashin", 7, 33, 100)
        bank, image = self.bank("alpha"), self.bank("alpha").image()
        others = [self.bank("beta"), self.bank("gamma")]
        crashed = bank.crash()
        self.answers(None, self.system.crash, "alpha")
        self.assertEqual(self.bank("alpha").image(), crashed.image())
        self.assertIsNot(self.bank("alpha"), bank)
        self.assertEqual(bank.image(), image)
        self.assertIs(self.bank("beta"), others[0])
        self.assertIs(self.bank("gamma"), others[1])
        self.answers(995, self.own, "alpha")

    def test_ends_of_the_clearing_stay(self):
        self.pays("alpha", "beta", 5, "k1")
        self.deliver_all()
        self.deliver_all()
        self.answers([], self.bank("alpha").outbox)
        self.system.crash("alpha")
        self.assertEqual(len(self.bank("alpha").outbox()), 1)
        self.system.mail.clear()
        self.system.collect()
        # The letter is sent again, is not taken again, and is acknowledged again.
        self.answers(False, self.system.deliver, 0)
        self.assertEqual(len(self.system.clearing.queue()), 1)
        place = self.system.mail.index(write_letter(("ack", CLEARING, "alpha", 1, [])))
        self.answers(True, self.system.deliver, place)
        self.answers([], self.bank("alpha").outbox)
        self.calm()
        self.assert_books_agree()

    def test_letters_of_the_clearing_come_again(self):
        self.pays("alpha", "beta", 300, "k1")
        self.deliver_all()
        self.system.settle()
        self.deliver_all()
        self.answers(1300, self.own, "beta")
        self.system.crash("beta")
        self.answers(1000, self.own, "beta")
        self.calm()
        self.answers(1300, self.own, "beta")
        self.assert_books_agree()

    def test_funds_survive(self):
        self.system.fund("alpha", 77)
        self.system.crash("alpha")
        self.assertEqual(self.balance("alpha", NOSTRO), 577)
        self.calm()
        self.assert_books_agree()

    def test_order_of_the_banks_stays(self):
        for name in ["gamma", "beta"]:
            self.system.crash(name)
        self.system.collect()
        self.assertEqual([read_letter(text)[1] for text in self.system.mail[:3]], NAMES)


class QuietTest(SystemCase):

    def test_at_first(self):
        self.answers(True, self.system.quiet)

    def test_letters_of_a_bank(self):
        # A letter that is taken, but not acknowledged, and the payment settled and acknowledged otherwise.
        self.pays("alpha", "beta", 5, "k1")
        self.calm()
        self.answers(True, self.system.quiet)
        self.system.crash("alpha")
        self.assertEqual(self.state("alpha", "k1"), "settled")
        self.answers(False, self.system.quiet)
        self.deliver_all()
        self.answers(True, self.system.quiet)

    def test_letters_of_deeds_that_are_not_saved(self):
        self.pays("alpha", "beta", 5, "k1", there=99)
        self.deliver_all()
        self.system.settle()
        for name in ["alpha", "beta"]:
            self.deliver_all()
        self.do("alpha", "boss", "save")
        self.deliver_all()
        # Beta has the return as a letter that goes out when it saves.
        self.assertEqual(self.bank("beta").incoming()[0][4], "returning")
        self.answers([], self.bank("beta").outbox)
        self.answers(False, self.system.quiet)
        self.do("beta", "boss", "save")
        self.answers(False, self.system.quiet)
        self.calm()
        self.answers(True, self.system.quiet)

    def test_letters_of_the_clearing(self):
        self.pays("alpha", "beta", 5, "k1")
        self.deliver_all()
        self.system.settle()
        self.deliver_all()
        self.assertEqual(self.state("alpha", "k1"), "settled")
        self.answers([], self.bank("alpha").outbox)
        self.answers([], self.system.clearing.queue)
        self.answers(False, self.system.quiet)
        self.do("alpha", "boss", "save")
        self.deliver_all()
        self.answers(False, self.system.quiet)
        self.do("beta", "boss", "save")
        self.deliver_all()
        self.answers(True, self.system.quiet)

    def test_queue(self):
        self.pays("gamma", "beta", 5, "k1")
        self.calm()
        self.answers([], self.bank("gamma").outbox)
        self.answers(False, self.system.quiet)
        # A return waits in the queue while no payment is "made".
        self.setUp()
        self.pays("alpha", "beta", 5, "k1", there=99)
        self.deliver_all()
        self.system.settle()
        self.calm(settle=False)
        self.assertEqual([self.state("alpha", "k1"), len(self.system.clearing.queue())], ["settled", 1])
        self.answers(False, self.system.quiet)
        self.calm()
        self.answers(True, self.system.quiet)

    def test_payment_that_is_made(self):
        self.pays("alpha", "beta", 5, "k1")
        self.calm(settle=False)
        # Settled behind the system's back, so that no letter tells of it and nothing waits.
        self.system.clearing.settle()
        self.answers([], self.bank("alpha").outbox)
        self.answers([], self.system.clearing.queue)
        self.assertEqual(self.state("alpha", "k1"), "made")
        self.answers(False, self.system.quiet)

    def test_mail_does_not_count(self):
        self.system.collect()
        self.answers(True, self.system.quiet)

    def test_a_closing_does_not_count(self):
        self.do("alpha", "boss", "close")
        self.answers(True, self.system.quiet)


class TotalTest(SystemCase):

    def test_total(self):
        # Cash stands against the deposits; of the funds 500 each stand against capital.
        self.answers(-1000, self.system.total)
        self.system.fund("gamma", 30)
        self.answers(-1030, self.system.total)
        self.do("alpha", "boss", "cashin", 7, 5, 100)
        self.answers(-1030, self.system.total)

    def test_interest(self):
        self.do("alpha", "boss", "version", "save", 101, [(0, 10000)], FREE)
        day = self.bank("alpha").day
        while self.balance("alpha", 5) == 0:
            self.do("alpha", "boss", "close")
            self.do("alpha", "boss", "work", 1000)
        self.assertGreater(self.bank("alpha").day, day)
        self.assertEqual(self.system.total(), -1000 + self.balance("alpha", 5))

    def test_each_account_counts(self):
        before = self.system.total()
        self.pays("alpha", "beta", 100, "k1", there=99)
        for _ in range(4):
            self.deliver_all()
            self.answers(before, self.system.total)
            self.system.settle()
            self.answers(before, self.system.total)
            self.save_all()
        self.pays("alpha", "nobody", 100, "k2")
        self.do("alpha", "boss", "freeze", 7)
        self.calm()
        self.assertNotEqual(self.balance("alpha", SUSPENSE), 0)
        self.assertNotEqual(self.balance("alpha", CASH), 0)
        self.answers(before, self.system.total)

    def test_closed_accounts_count_as_well(self):
        self.do("gamma", "boss", "cashout", 7, 1000, 100)
        self.do("gamma", "boss", "finish", 7)
        self.do("gamma", "boss", "start", "save", "bob")
        self.do("gamma", "boss", "cashin", 8, 60, 100)
        self.answers(-1000, self.system.total)


class RandomTest(SystemCase):
    """Long rows of calls of every kind, with what [49] and [48] tell behind each of them."""

    def random_call(self, rng):
        """One call; it may raise an error."""
        name, other = rng.sample(NAMES, 2)
        bank, mail = self.bank(name), self.system.mail
        place = rng.randint(-1, len(mail))
        what = rng.randint(0, 19)
        if what <= 2:
            self.keys += 1
            there = rng.choice([7, 7, 7, 8, 99])
            bank.do("boss", "pay", [7, rng.choice([other, other, other, "nobody"]), there, rng.randint(1, 400), "k" + str(self.keys)])
            self.paid.append(name + "/k" + str(self.keys))
        elif what == 3:
            self.system.collect()
        elif what <= 9:
            self.system.deliver(rng.choice([place, 0]))
        elif what == 10:
            self.system.duplicate(place)
        elif what == 11:
            self.system.lose(place)
        elif what == 12:
            self.system.spoil(place, rng.randint(0, 30), rng.choice("a|0 z9"))
        elif what == 13:
            self.system.settle()
        elif what == 14 and rng.random() < 0.4:
            self.system.crash(name)
        elif what == 15:
            bank.do("boss", rng.choice(["freeze", "thaw", "thaw"]), [7])
        elif what == 16:
            bank.do("boss", "close", [])
        elif what == 17:
            bank.do("boss", "work", [rng.choice([1, 2, 50])])
        else:
            bank.do("boss", "save", [])

    def finish_closings(self):
        for name in NAMES:
            if self.bank(name).pending():
                self.do(name, "boss", "work", 1000)

    def test_random_calls(self):
        for seed in range(12):
            rng = random.Random(seed)
            self.setUp()
            self.keys, self.paid = 0, []
            # Interest that is posted would change the total, so that all stay within the month.
            for _ in range(500):
                if max(self.bank(name).day for name in NAMES) >= 118:
                    break
                before = self.system.total()
                try:
                    self.random_call(rng)
                except BankError:
                    pass
                self.assertEqual(self.system.total(), before)
                self.check_stages()
                if self.system.quiet():
                    self.assert_books_agree()
            self.finish_closings()
            self.system.fund("gamma", 5000)
            self.system.fund("alpha", 5000)
            self.system.fund("beta", 5000)
            self.calm()
            self.assert_books_agree()
            self.check_end()

    def check_stages(self):
        queue = [row[0] for row in self.system.clearing.queue()]
        for key in self.paid:
            name, _, own_key = key.partition("/")
            listed = [row for row in self.bank(name).outgoing() if row[0] == own_key]
            stage = self.system.stage(key)
            self.assertEqual(stage is None, listed == [])
            if stage is None:
                continue
            payee, state = listed[0][2], listed[0][5]
            if state == "returned":
                self.assertEqual(stage, "home")
            elif key in queue:
                self.assertEqual(stage, "clearing")
            elif payee in NAMES and key in [row[0] for row in self.bank(payee).incoming()]:
                self.assertEqual(stage, "home")
            elif payee not in NAMES:
                self.assertIn(stage, ["bank", "back"])
            elif state == "settled":
                self.assertEqual(stage, "paid")
            else:
                self.assertIn(stage, ["bank", "paid"])

    def check_end(self):
        """Each payment is home: booked with the payee, or returned to the payer."""
        for name in NAMES:
            for key, _, payee, there, amount, state in self.bank(name).outgoing():
                self.assertEqual(self.system.stage(name + "/" + key), "home")
                came = [] if payee not in NAMES else self.bank(payee).incoming()
                found = [row for row in came if row[0] == name + "/" + key]
                if state == "settled":
                    self.assertEqual(found, [(name + "/" + key, name, amount, there, "booked")])
                else:
                    self.assertEqual(state, "returned")
                    self.assertIn([row[4] for row in found], [[], ["returned"]])
            self.assertEqual({row[4] for row in self.bank(name).incoming()} - {"booked", "returned"}, set())
            self.assertLessEqual(self.bank(name).day, LAST_DAY)


class ShuffledTest(SystemCase):
    """Whatever the order in which letters come, all that is sent is taken once."""

    def test_any_order(self):
        for seed in range(10):
            rng = random.Random(seed)
            self.setUp()
            for name, other in itertools.permutations(NAMES, 2):
                self.pays(name, other, rng.randint(1, 100), "to" + other)
            self.system.fund("gamma", 200)
            for _ in range(60):
                self.system.collect()
                while self.system.mail:
                    place = rng.randrange(len(self.system.mail))
                    rng.choice([self.system.deliver, self.system.deliver, self.system.lose])(place)
                self.system.settle()
                self.save_all()
            self.assert_books_agree()
            for name, other in itertools.permutations(NAMES, 2):
                self.assertEqual(self.state(name, "to" + other), "settled")
            for name in NAMES:
                self.assertEqual({row[4] for row in self.bank(name).incoming()}, {"booked"})
                self.assertEqual(len(self.bank(name).incoming()), 2)


if __name__ == "__main__":
    unittest.main()
