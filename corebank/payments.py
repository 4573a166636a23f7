"""Payments between banks: those that a bank made, those that came in, and what letters do to them."""

from corebank.amounts import is_amount, is_whole_part
from corebank.chart import NOSTRO, SUSPENSE, TRANSIT
from corebank.errors import BadValue, BankError, Refused
from corebank.orders import is_name

LONGEST_KEY = 20
GREATEST_ACCOUNT = 1000
RETURN = "/R"


def is_key(text):
    """Tell whether a text can be the key of a payment."""
    return 1 <= len(text) <= LONGEST_KEY and "|" not in text and "/" not in text


def is_full_key(text, bank):
    """Tell whether a text is the full key of a payment that this bank made."""
    name, _, key = text.partition("/")
    return name == bank and is_key(key)


class Outgoing:
    """A payment that the bank made."""

    def __init__(self, key, account, payee, there, amount):
        self.key = key
        self.account = account
        self.payee = payee
        self.there = there
        self.amount = amount
        self.state = "made"


class Incoming:
    """A payment that came in."""

    def __init__(self, payer, amount, account, state):
        self.payer = payer
        self.amount = amount
        self.account = account
        self.state = state


class Payments:
    """The payments of a bank, all by their full keys, over its deposits and its link to the clearing."""

    def __init__(self, name, deposits, sender):
        self.name = name
        self.deposits = deposits
        self.sender = sender
        self._outgoing = {}
        self._incoming = {}

    def outgoing_rows(self):
        """The payments made, as tuples (key, account, bank, account there, amount, state)."""
        told = list(self._outgoing.values())
        return [(made.key, made.account, made.payee, made.there, made.amount, made.state) for made in told]

    def incoming_rows(self):
        """The payments that came in, as tuples (full key, payer bank, amount, account, state)."""
        keys = list(self._incoming)
        told = [(key, self._incoming[key]) for key in keys]
        return [(key, came.payer, came.amount, came.account, came.state) for key, came in told]

    def move(self, day, cause, source, target, amount):
        """Post an amount, added to one account and taken from another one."""
        self.deposits.ledger.post(day, day, cause, [(source, amount), (target, -amount)])

    def pay(self, day, account, payee, there, amount, key):
        """Make a payment to an account of another bank, and return its key."""
        if not is_key(key):
            raise BadValue("the key is no key of a payment")
        full_key = self.name + "/" + key
        if full_key in self._outgoing:
            raise Refused("a payment has this key")
        if not is_name(payee) or payee == self.name:
            raise BadValue("the bank is no name or the own one")
        if not 1 <= there <= GREATEST_ACCOUNT:
            raise BadValue("the account there is not from 1 to 1000")
        self.deposits.check_debit(account, amount)
        self.move(day, "out " + key, account, TRANSIT, amount)
        self._outgoing[full_key] = Outgoing(key, account, payee, there, amount)
        self.sender.dispatch("pay", [full_key, payee, str(amount), str(there)])
        return key

    def act_on(self, letter, day):
        """Do what a letter of the clearing says; a letter that says nothing known changes nothing."""
        kind, _, _, _, fields = letter
        if kind == "settled" and len(fields) == 1:
            self.act_on_settled(fields[0], day)
        elif kind == "funds" and len(fields) == 4:
            self.act_on_funds(fields, day)

    def returning_at(self, text):
        """The incoming payment whose return has this key, if it is returning; None if there is none."""
        if not text.endswith(RETURN):
            return None
        found = self._incoming.get(text.removesuffix(RETURN), None)
        if found is None or found.state != "returning":
            return None
        return found

    def act_on_settled(self, key, day):
        """Note that a payment made, or the return of one that came in, was settled."""
        made = self._outgoing.get(key, None)
        if made is not None and made.state == "made":
            made.state = "settled"
            self.move(day, "settled " + made.key, TRANSIT, NOSTRO, made.amount)
        returning = self.returning_at(key)
        if returning is not None:
            returning.state = "returned"
            self.move(day, "settled " + key, TRANSIT, NOSTRO, returning.amount)

    def act_on_funds(self, fields, day):
        """Take in a payment, or what comes back of one."""
        key, payer, amount_text, account_text = fields
        if not is_whole_part(amount_text) or not is_whole_part(account_text):
            return
        amount = int(amount_text)
        account = int(account_text)
        if account == 0:
            self.take_back(key, amount, day)
        elif account <= GREATEST_ACCOUNT and is_amount(amount) and self.is_new(key, payer):
            self.take_in(key, payer, amount, account, day)

    def is_new(self, key, payer):
        """Tell whether this is the full key of a payment of another bank that did not come in yet."""
        if not is_name(payer) or payer == self.name:
            return False
        return is_full_key(key, payer) and key not in self._incoming

    def may_credit(self, account, amount):
        """Tell whether an amount may be added to an account."""
        try:
            self.deposits.check_credit(account, amount)
        except BankError:
            return False
        return True

    def take_in(self, key, payer, amount, account, day):
        """Book a payment that came in on its account, or send it back."""
        if self.may_credit(account, amount):
            self._incoming[key] = Incoming(payer, amount, account, "booked")
            self.move(day, "in " + key, NOSTRO, account, amount)
        else:
            self._incoming[key] = Incoming(payer, amount, account, "returning")
            self.move(day, "in " + key, NOSTRO, TRANSIT, amount)
            self.sender.dispatch("pay", [key + RETURN, payer, str(amount), "0"])

    def take_back(self, key, amount, day):
        """Take back a payment made that was returned or refused, or keep one whose return was refused."""
        # A payment's own key may be R, so that the whole text is looked for first.
        whole = self._outgoing.get(key, None)
        made = whole if whole is not None else self._outgoing.get(key.removesuffix(RETURN), None)
        if made is not None and made.state != "returned" and made.amount == amount:
            source = NOSTRO if made.state == "settled" else TRANSIT
            target = made.account if self.may_credit(made.account, amount) else SUSPENSE
            made.state = "returned"
            self.move(day, "back " + made.key, source, target, amount)
        returning = self.returning_at(key)
        if returning is not None and returning.amount == amount:
            returning.state = "kept"
            self.move(day, "kept " + key, TRANSIT, SUSPENSE, amount)
