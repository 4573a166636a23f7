"""The closing of a bank's day: a list of items, done some at a time."""

from corebank.chart import INTEREST
from corebank.days import LAST_DAY, date_of
from corebank.errors import BadValue, BankError, Refused

MOST_AT_ONCE = 1000


class Closing:
    """The items that are left; there is no closing while there are none."""

    def __init__(self, deposits, transfers):
        self.deposits = deposits
        self.transfers = transfers
        self._left = []

    def goes_on(self):
        """Tell whether the bank is in the middle of a closing."""
        return len(self._left) > 0

    def left_items(self):
        """The items that are left, in order."""
        return list(self._left)

    def begin(self, day):
        """Begin the closing of a day, and return how many items there are."""
        if day == LAST_DAY:
            raise Refused("there is no day behind the last one")
        accounts = [account for account in self.deposits.numbers() if self.deposits.state_of(account) != "closed"]
        items = [("lapse",), ("expire",)] + [("interest", account) for account in accounts]
        if date_of(day + 1)[2] == 1:
            items += [("capital", account) for account in accounts]
        self._left = items
        return len(items)

    def go_on(self, number, day):
        """Do the next items of the closing of a day, and return how many are left."""
        if not 1 <= number <= MOST_AT_ONCE:
            raise BadValue("the number of items is not from 1 to 1000")
        if not self.goes_on():
            raise Refused("there is no closing")
        for item in self._left[:number]:
            self.do_item(item, day)
        self._left = self._left[number:]
        return len(self._left)

    def do_item(self, item, day):
        """Do one item of the closing of a day."""
        if item[0] == "lapse":
            self.deposits.lapse(day + 1)
        elif item[0] == "expire":
            self.transfers.expire_orders(day + 1)
        elif item[0] == "interest":
            self.deposits.accrue(item[1], day)
        else:
            self.post_interest(item[1], day)

    def post_interest(self, account, day):
        """Post the interest of an account, unless the ledger refuses it."""
        try:
            self.deposits.credit_interest(account, day, INTEREST, "interest")
        except BankError:
            # What is accrued stays, so that a later closing can post it.
            pass
