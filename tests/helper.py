"""What the tests of all modules share."""

import unittest

from corebank.bank import Bank
from corebank.errors import BankError

# The texts that are no names, by all that a name must not be.
NO_NAMES = ["", "abcdefghijklm", "9a", "0", "A", "aB", "a b", " a", "a ", "a-b", "a_b", "a|b", "a/b", "`", "a{", "a:"]
NO_DAYS = [-1, 36525, 10 ** 9]
# At 36 percent a year 1000 units bear 3600000 parts a day, which are one unit.
TIERS = [(0, 3600)]
FREE = [(0, 0)]


def raised(function, *arguments):
    """The class of the error that a call raises; None if it raises none."""
    try:
        function(*arguments)
    except BankError as error:
        return type(error)
    return None


def picture_of_deposits(deposits):
    """All that deposits tell of their accounts and holds."""
    told = []
    for account in deposits.numbers():
        told.append((
            account, deposits.state_of(account), deposits.limit_of(account), deposits.owner_of(account),
            deposits.opened_on(account), deposits.product_of(account).name, deposits.own_balance(account),
            deposits.held(account), deposits.available(account), deposits.accrued(account),
        ))
    holds = []
    while raised(deposits.hold_of, len(holds) + 1) is None:
        holds.append(deposits.hold_of(len(holds) + 1))
    return told, holds


def picture_of_orders(orders, names):
    """All that orders tell, with the roles of these users."""
    roles = [orders.role_of(name) if orders.may(name, "teller") else None for name in names]
    placed = []
    while raised(orders.order, len(placed) + 1) is None:
        placed.append(orders.order(len(placed) + 1))
    return roles, placed


def picture_of_bank(bank):
    """All that can be asked of a bank."""
    ledger = bank.ledger
    names = [deed[4][0] for deed in bank.deeds() if deed[3] == "hire"]
    # Copied once more, so that no list in a picture can be one that the bank keeps.
    lists = [list(told) for told in (bank.outgoing(), bank.incoming(), bank.pending(), bank.outbox())]
    return (
        bank.image(), bank.name, bank.currency, bank.day, bank.deeds(), lists, bank.saved(), bank.ack(), ledger.accounts(),
        [ledger.entry(number) for number in range(1, ledger.entries() + 1)],
        picture_of_deposits(bank.deposits), picture_of_orders(bank.orders, names),
    )


class Case(unittest.TestCase):
    """A test case that can ask for the very class of an error."""

    def raises(self, error, function, *arguments):
        """The call raises an error of exactly this class, not of one below or above it."""
        with self.assertRaises(error) as caught:
            function(*arguments)
        self.assertIs(type(caught.exception), error, arguments)

    def answers(self, expected, function, *arguments):
        """The call returns a value that is equal and of the same kind."""
        got = function(*arguments)
        self.assertEqual(got, expected, arguments)
        self.assertIs(type(got), type(expected), arguments)


class BankCase(Case):
    """A test case with a bank of day 100 (April 10 of 2000): three users, a product, two open accounts with money."""

    DAY = 100

    def setUp(self):
        self.found(self.DAY)

    def found(self, day):
        """Found the bank on a day."""
        self.founded = day
        self.bank = Bank("alpha", "EUR", day, "boss")
        self.do("boss", "hire", "olga", "officer")
        self.do("boss", "hire", "ted", "teller")
        self.do("olga", "product", "save", "down")
        self.do("olga", "version", "save", day, TIERS, FREE)
        self.ann = self.do("ted", "start", "save", "ann")
        self.bob = self.do("ted", "start", "save", "bob")
        self.do("ted", "cashin", self.ann, 1000, day)
        self.do("ted", "cashin", self.bob, 500, day)

    def do(self, by, deed, *arguments):
        """Do a deed on the bank."""
        return self.bank.do(by, deed, list(arguments))

    def deed_answers(self, expected, by, deed, *arguments):
        """The deed is done with this answer, and recorded so."""
        day, count = self.bank.day, len(self.bank.deeds())
        self.answers(expected, self.bank.do, by, deed, list(arguments))
        self.assertEqual(len(self.bank.deeds()), count + 1)
        self.assertEqual(self.bank.deeds()[-1], (count + 1, day, by, deed, list(arguments), expected))

    def deed_posts(self, valued, cause, lines, by, deed, *arguments):
        """The deed posts this entry on the bank's day, and answers with its number."""
        number = self.bank.ledger.entries() + 1
        self.deed_answers(number, by, deed, *arguments)
        self.assert_last_entry(number, valued, cause, lines)

    def assert_last_entry(self, number, valued, cause, lines):
        """The last entry has this number, and was booked on the bank's day."""
        self.assertEqual(self.bank.ledger.entries(), number)
        self.assertEqual(self.bank.ledger.entry(number), (number, self.bank.day, valued, cause, lines, None, None))

    def unchanged(self, error, function, *arguments):
        """The call raises the error and changes nothing that can be asked of the bank."""
        before = picture_of_bank(self.bank)
        self.raises(error, function, *arguments)
        self.assertEqual(picture_of_bank(self.bank), before, arguments)

    def fails(self, error, by, deed, *arguments):
        """The deed raises the error and changes nothing that can be asked."""
        self.unchanged(error, self.bank.do, by, deed, list(arguments))

    def own(self, account):
        """The own balance of a deposit account."""
        return self.bank.deposits.own_balance(account)

    def balance(self, account):
        """The balance of an account of the ledger."""
        return self.bank.ledger.balance(account, None, None)

    def order_state(self, number):
        """The state of an order."""
        return self.bank.orders.order(number)[8]

    def close_day(self):
        """Close the bank's day at once."""
        self.do("boss", "close")
        self.do("ted", "work", 1000)

    def fill_ledger(self, entries=2000):
        """Fund the bank until its ledger has so many entries."""
        while self.bank.ledger.entries() < entries:
            self.bank.fund(1)

    def fill_deeds(self, deeds=3000):
        """Save until there are so many deeds."""
        while self.bank.saved() < deeds:
            self.do("ted", "save")
