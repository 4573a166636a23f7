"""Deposit accounts: what a bank owes its customers, with limits, holds and interest."""

from corebank.amounts import LIMIT, check_amount, divide_rounded
from corebank.days import check_day
from corebank.errors import BadDay, BadValue, Full, Missing, Refused
from corebank.products import PARTS

MOST_HOLDS = 500


def parts_over_days(product, lines, opened, day):
    """The sum of the parts of all days from `opened` to `day`, by the value days of a ledger account's lines."""
    changes = {opened: 0}
    for first in product.first_days():
        if opened < first <= day:
            changes[first] = 0
    for _, _, valued, units in lines:
        if valued <= day:
            # What has a value day ahead of the opening is in the balance from the opening on.
            at = max(valued, opened)
            changes[at] = changes.get(at, 0) - units
    starts = sorted(list(changes))
    ends = starts[1:] + [day + 1]
    parts = 0
    balance = 0
    # Between two changes all days are alike, so that one of them tells the parts of each.
    for start, end in zip(starts, ends):
        balance += changes[start]
        parts += (end - start) * product.parts_at(start, balance)
    return parts


class Deposit:
    """One deposit account: what is known of it beside the ledger."""

    def __init__(self, product, owner, opened):
        self.product = product
        self.owner = owner
        self.opened = opened
        self.state = "open"
        self.limit = 0
        self.parts = 0
        self.credited = 0
        # The earliest day up to which the next accrual may go.
        self.earliest = opened


class Hold:
    """An amount that is held on an account up to a day."""

    def __init__(self, account, amount, until):
        self.account = account
        self.amount = amount
        self.until = until
        self.state = "held"


class Deposits:
    """The deposit accounts of a bank, over a ledger."""

    def __init__(self, ledger):
        self.ledger = ledger
        self._deposits = {}
        self._holds = []

    def start(self, product, owner, day):
        """Open a deposit account and return its number in the ledger."""
        check_day(day)
        account = self.ledger.open_account(product.currency, "debt")
        self._deposits[account] = Deposit(product, owner, day)
        return account

    def deposit_at(self, account):
        """The deposit account of this number."""
        if account not in self._deposits:
            raise Missing("there is no such deposit account")
        return self._deposits[account]

    def numbers(self):
        """The numbers of all deposit accounts, in order."""
        return list(self._deposits)

    def state_of(self, account):
        """Tell the state: "open", "frozen" or "closed"."""
        return self.deposit_at(account).state

    def limit_of(self, account):
        """Tell by how much the account may be below 0."""
        return self.deposit_at(account).limit

    def owner_of(self, account):
        """Tell the owner."""
        return self.deposit_at(account).owner

    def opened_on(self, account):
        """Tell the opening day."""
        return self.deposit_at(account).opened

    def product_of(self, account):
        """The product itself."""
        return self.deposit_at(account).product

    def own_balance(self, account):
        """What the bank owes the owner, over all days."""
        self.deposit_at(account)
        return -self.ledger.balance(account, None, None)

    def set_limit(self, account, limit):
        """Set by how much the account may be below 0."""
        deposit = self.deposit_at(account)
        if not 0 <= limit <= LIMIT:
            raise BadValue("the limit is not from 0 to 1000000000")
        if deposit.state == "closed":
            raise Refused("the account is closed")
        deposit.limit = limit

    def freeze(self, account):
        """Bar an open account from debits and credits."""
        deposit = self.deposit_at(account)
        if deposit.state != "open":
            raise Refused("the account is not open")
        deposit.state = "frozen"

    def thaw(self, account):
        """Open a frozen account again."""
        deposit = self.deposit_at(account)
        if deposit.state != "frozen":
            raise Refused("the account is not frozen")
        deposit.state = "open"

    def finish(self, account):
        """Close an account on which nothing is left."""
        deposit = self.deposit_at(account)
        if deposit.state != "open":
            raise Refused("the account is not open")
        if self.own_balance(account) != 0:
            raise Refused("the balance is not 0")
        if self.held(account) != 0:
            raise Refused("an amount is held")
        if deposit.parts != 0:
            raise Refused("interest is accrued")
        deposit.state = "closed"

    def hold(self, account, amount, until):
        """Hold an amount up to a day, and return the number of the hold."""
        self.deposit_at(account)
        check_amount(amount)
        check_day(until)
        self.check_debit(account, amount)
        if len(self._holds) >= MOST_HOLDS:
            raise Full("there are 500 holds")
        self._holds.append(Hold(account, amount, until))
        return len(self._holds)

    def held(self, account):
        """The sum of the amounts that are held on an account."""
        self.deposit_at(account)
        return sum([hold.amount for hold in self._holds if hold.account == account and hold.state == "held"])

    def available(self, account):
        """The greatest amount that may be taken from an account."""
        return self.own_balance(account) + self.limit_of(account) - self.held(account)

    def hold_at(self, number):
        """The hold of this number."""
        if not 1 <= number <= len(self._holds):
            raise Missing("there is no such hold")
        return self._holds[number - 1]

    def end_hold(self, number, state):
        """Give a hold that is held its last state."""
        hold = self.hold_at(number)
        if hold.state != "held":
            raise Refused("the hold is not held")
        hold.state = state

    def release(self, hold):
        """Make what is held available again."""
        self.end_hold(hold, "released")

    def consume(self, hold):
        """End a hold because its amount is taken now."""
        self.end_hold(hold, "used")

    def lapse(self, day):
        """End each hold whose last day is below `day`, and return their numbers."""
        lapsed = []
        for place, hold in enumerate(self._holds):
            if hold.state == "held" and hold.until < day:
                hold.state = "lapsed"
                lapsed.append(place + 1)
        return lapsed

    def hold_of(self, number):
        """A hold as (account, amount, until, state)."""
        hold = self.hold_at(number)
        return (hold.account, hold.amount, hold.until, hold.state)

    def check_debit(self, account, amount):
        """Raise Refused unless an amount may be taken from an account."""
        deposit = self.deposit_at(account)
        check_amount(amount)
        if deposit.state != "open":
            raise Refused("the account is not open")
        if self.available(account) < amount:
            raise Refused("the amount is not available")

    def check_credit(self, account, amount):
        """Raise Refused unless an amount may be added to an account."""
        deposit = self.deposit_at(account)
        check_amount(amount)
        if deposit.state != "open":
            raise Refused("the account is not open")
        if self.own_balance(account) + amount > LIMIT:
            raise Refused("the balance would be too great")

    def would_accrue(self, account, day):
        """What accrue would return; nothing is changed."""
        deposit = self.deposit_at(account)
        if deposit.state == "closed":
            raise Refused("the account is closed")
        check_day(day)
        if day < deposit.earliest:
            raise BadDay("the day is below the last accrued day or the opening day")
        lines = self.ledger.lines_of(account)
        # All days are counted anew, because later entries may have value days that were accrued already.
        return parts_over_days(deposit.product, lines, deposit.opened, day) - PARTS * deposit.credited

    def accrue(self, account, day):
        """Accrue interest up to a day, and return the accrued parts."""
        parts = self.would_accrue(account, day)
        deposit = self.deposit_at(account)
        deposit.parts = parts
        deposit.earliest = day
        return parts

    def accrued(self, account):
        """The parts that are accrued and not credited."""
        return self.deposit_at(account).parts

    def credit_interest(self, account, day, against, cause):
        """Post the accrued interest, rounded to units, and return the units."""
        deposit = self.deposit_at(account)
        if deposit.state == "closed":
            raise Refused("the account is closed")
        if against == account:
            raise Refused("interest is not posted against the account itself")
        units = divide_rounded(deposit.parts, PARTS, deposit.product.way)
        if units == 0:
            return 0
        self.ledger.post(day, day, cause, [(account, -units), (against, units)])
        deposit.parts -= PARTS * units
        deposit.credited += units
        return units
