"""Transfers: amounts that go from one deposit account of a bank to another one, by orders."""

from corebank.days import LAST_DAY
from corebank.errors import BankError, Refused

KIND = "transfer"
DAYS_TO_GRANT = 5


class Transfer:
    """What an order is to move, and the hold that keeps the amount meanwhile, if there is one."""

    def __init__(self, source, target):
        self.source = source
        self.target = target
        self.hold_number = None


class Transfers:
    """The transfers of a bank; each belongs to an order."""

    def __init__(self, deposits, orders):
        self.deposits = deposits
        self.orders = orders
        self._transfers = {}

    def check_transfer(self, source, target, amount):
        """Raise an error unless the amount can be moved as the accounts stand now."""
        self.deposits.check_debit(source, amount)
        self.deposits.check_credit(target, amount)
        if source == target:
            raise Refused("the accounts are the same")

    def arrange(self, by, source, target, amount, key, day):
        """Place an order for a transfer, carry it out if it is ready, and return the number of the order."""
        known = self.orders.by_key(key)
        if known is None:
            self.check_transfer(source, target, amount)
        until = min(day + DAYS_TO_GRANT, LAST_DAY)
        number = self.orders.place(by, KIND, amount, key, until)
        if known is not None:
            return number
        transfer = Transfer(source, target)
        self._transfers[number] = transfer
        if self.state_of_order(number) == "ready":
            self.carry_out(number, day)
        else:
            # There is room for the hold: each one belongs to an order, and there can be as many holds as orders.
            transfer.hold_number = self.deposits.hold(source, amount, until)
        return number

    def state_of_order(self, number):
        """Tell the state of an order."""
        return self.orders.order(number)[8]

    def carry_out(self, number, day):
        """Move the amount of a ready order, and return the state of the order then: "done" or "failed"."""
        transfer = self._transfers[number]
        if transfer.hold_number is not None:
            self.deposits.consume(transfer.hold_number)
        amount = self.orders.order(number)[2]
        try:
            self.check_transfer(transfer.source, transfer.target, amount)
            lines = [(transfer.source, amount), (transfer.target, -amount)]
            self.deposits.ledger.post(day, day, KIND, lines)
        except BankError:
            return self.orders.fail(number)
        return self.orders.complete(number)

    def grant_order(self, by, number, day):
        """Grant an order, carry it out with the last grant, and return its state then."""
        state = self.orders.grant(by, number)
        if state == "ready":
            return self.carry_out(number, day)
        return state

    def reject_order(self, by, number):
        """Reject an order, and return its state."""
        state = self.orders.reject(by, number)
        self.release_hold(number)
        return state

    def withdraw_order(self, by, number):
        """Let its maker take back an order, and return its state."""
        state = self.orders.withdraw(by, number)
        self.release_hold(number)
        return state

    def expire_orders(self, day):
        """End each order whose last day is below `day`."""
        for number in self.orders.expire(day):
            self.release_hold(number)

    def release_hold(self, number):
        """Release the hold of an order that waited, if it is still held."""
        hold = self._transfers[number].hold_number
        if self.deposits.hold_of(hold)[3] == "held":
            self.deposits.release(hold)
