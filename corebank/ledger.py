"""The ledger: accounts, and entries that are never changed or removed."""

from corebank.amounts import LIMIT
from corebank.days import check_day
from corebank.errors import BadDay, BadValue, Full, Missing, Refused

SORTS = ("asset", "debt", "equity", "income", "cost")
LETTERS = "ABCDEFGHIJKLMNOPQRSTUVWXYZ"
CURRENCY_LETTERS = 3
LONGEST_CAUSE = 60
FEWEST_LINES = 2
MOST_LINES = 20
MOST_ACCOUNTS = 200
MOST_ENTRIES = 2000


def is_currency(text):
    """Tell whether a text is three letters A to Z."""
    return len(text) == CURRENCY_LETTERS and all([sign in LETTERS for sign in text])


class Account:
    """One account of a ledger, with its lines as lines_of tells them."""

    def __init__(self, currency, group):
        self.currency = currency
        self.group = group
        self.rows = []


class Entry:
    """One entry of a ledger; its lines are a tuple of pairs."""

    def __init__(self, booked, valued, cause, pairs):
        self.booked = booked
        self.valued = valued
        self.cause = cause
        self.pairs = pairs


class Ledger:
    """Accounts and entries, both numbered from 1."""

    def __init__(self):
        self._accounts = []
        self._entries = []
        # Two tables beside the entries, because an entry itself is never changed.
        self._reverses = {}
        self._reversed_by = {}

    def accounts(self):
        """Tell how many accounts there are."""
        return len(self._accounts)

    def entries(self):
        """Tell how many entries there are."""
        return len(self._entries)

    def open_account(self, currency, sort):
        """Add an account and return its number."""
        if not is_currency(currency):
            raise BadValue("the currency is not three letters A to Z")
        if sort not in SORTS:
            raise BadValue("there is no such sort of account")
        if len(self._accounts) >= MOST_ACCOUNTS:
            raise Full("there are 200 accounts")
        self._accounts.append(Account(currency, sort))
        return len(self._accounts)

    def account_at(self, account):
        """The account of this number."""
        if not 1 <= account <= len(self._accounts):
            raise Missing("there is no such account")
        return self._accounts[account - 1]

    def entry_at(self, number):
        """The entry of this number."""
        if not 1 <= number <= len(self._entries):
            raise Missing("there is no such entry")
        return self._entries[number - 1]

    def currency_of(self, account):
        """Tell the currency of an account."""
        return self.account_at(account).currency

    def sort_of(self, account):
        """Tell the sort of an account."""
        return self.account_at(account).group

    def check_days(self, day, value):
        """Raise BadDay unless an entry may be booked on `day` with the value day `value`."""
        check_day(day)
        check_day(value)
        if len(self._entries) > 0 and day < self._entries[-1].booked:
            raise BadDay("the booking day is below that of the last entry")

    def check_lines(self, lines):
        """Raise Missing or BadValue unless the lines may stand in one entry."""
        if not FEWEST_LINES <= len(lines) <= MOST_LINES:
            raise BadValue("the number of lines is not from 2 to 20")
        totals = {}
        for account, units in lines:
            currency = self.currency_of(account)
            if units == 0 or not -LIMIT <= units <= LIMIT:
                raise BadValue("the units of a line are 0 or out of range")
            totals[currency] = totals.get(currency, 0) + units
        for currency in totals:
            if totals[currency] != 0:
                raise BadValue("the units of a currency do not sum to 0")

    def post(self, day, value, cause, lines):
        """Add an entry and return its number."""
        self.check_days(day, value)
        if len(cause) > LONGEST_CAUSE:
            raise BadValue("the cause is too long")
        self.check_lines(lines)
        if len(self._entries) >= MOST_ENTRIES:
            raise Full("there are 2000 entries")
        pairs = tuple([(account, units) for account, units in lines])
        self._entries.append(Entry(day, value, cause, pairs))
        number = len(self._entries)
        for account, units in pairs:
            self._accounts[account - 1].rows.append((number, day, value, units))
        return number

    def reverse(self, number, day, cause):
        """Add an entry that undoes another one, and return its number."""
        old = self.entry_at(number)
        if number in self._reverses:
            raise Refused("the entry is a reversal")
        if number in self._reversed_by:
            raise Refused("the entry was reversed")
        negated = [(account, -units) for account, units in old.pairs]
        new = self.post(day, old.valued, cause, negated)
        self._reverses[new] = number
        self._reversed_by[number] = new
        return new

    def balance(self, account, booked, value):
        """Sum the units of an account up to a booking day and a value day; None for either means all days."""
        units = 0
        for _, row_booked, row_valued, row_units in self.account_at(account).rows:
            if booked is not None and row_booked > booked:
                continue
            if value is not None and row_valued > value:
                continue
            units += row_units
        return units

    def lines_of(self, account):
        """The lines of an account, as tuples (entry, booking day, value day, units)."""
        return list(self.account_at(account).rows)

    def entry(self, number):
        """An entry as (number, booking day, value day, cause, lines, reverses, reversed by)."""
        found = self.entry_at(number)
        reverses = self._reverses.get(number)
        reversed_by = self._reversed_by.get(number)
        return (number, found.booked, found.valued, found.cause, list(found.pairs), reverses, reversed_by)

    def sums(self, currency, booked, value):
        """The sums of the balances of all accounts of a currency, one for each sort in the order of SORTS."""
        totals = [0] * len(SORTS)
        for place, account in enumerate(self._accounts):
            if account.currency == currency:
                totals[SORTS.index(account.group)] += self.balance(place + 1, booked, value)
        return totals
