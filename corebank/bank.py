"""A bank: its books, the deeds of its users, and its link to the clearing."""

from corebank.amounts import check_amount
from corebank.chart import CAPITAL, CLEARING, NOSTRO
from corebank.closing import Closing
from corebank.days import check_day
from corebank.deeds import ACTIONS, TERMS
from corebank.deposits import Deposits
from corebank.errors import BadValue, BankError, Full, NotAllowed, Refused
from corebank.ledger import MOST_ENTRIES, Ledger, is_currency
from corebank.letters import read_letter, write_letter
from corebank.links import ACK, Receiver, Sender
from corebank.orders import Orders, check_name
from corebank.payments import Payments
from corebank.transfers import Transfers

MOST_DEEDS = 3000
MAIL = "mail"
FUND = "fund"
# The sorts of the accounts CASH to CAPITAL, in the order of their numbers.
CHART_SORTS = ("asset", "asset", "debt", "debt", "cost", "equity")


def copied(thing):
    """A copy of an argument in which no list is the same one."""
    if isinstance(thing, list):
        return [copied(inner) for inner in thing]
    return thing


def frozen(thing):
    """An argument with a tuple in place of each list."""
    if isinstance(thing, (list, tuple)):
        return tuple([frozen(inner) for inner in thing])
    return thing


def check_bank(name, currency, day, chief):
    """Raise an error unless a bank can be founded so."""
    check_name(name)
    if name == CLEARING:
        raise BadValue("the clearing has this name")
    if not is_currency(currency):
        raise BadValue("the currency is not three letters A to Z")
    check_day(day)
    check_name(chief)


class Bank:
    """A bank of one currency; all that it is follows from its deeds, and from what was acknowledged."""

    def __init__(self, name, currency, day, chief):
        check_bank(name, currency, day, chief)
        self.name = name
        self.currency = currency
        self.day = day
        self.ledger = Ledger()
        self.deposits = Deposits(self.ledger)
        self.orders = Orders()
        self.products = {}
        self.transfers = Transfers(self.deposits, self.orders)
        self.closing = Closing(self.deposits, self.transfers)
        self._sender = Sender(name, CLEARING)
        self._receiver = Receiver(name, CLEARING)
        self.payments = Payments(name, self.deposits, self._sender)
        self._founded = day
        self._chief = chief
        self._done = []
        self._saved_deeds = 0
        self._saved_letters = 0
        self._saved_taken = 0
        for sort in CHART_SORTS:
            self.ledger.open_account(currency, sort)
        self.orders.add_user(chief, "chief")

    def check_no_closing(self):
        """Raise Refused in the middle of a closing."""
        if self.closing.goes_on():
            raise Refused("the bank is in the middle of a closing")

    def check_room(self):
        """Raise Full if there is no room for one more deed."""
        if len(self._done) >= MOST_DEEDS:
            raise Full("there are 3000 deeds")

    def next_number(self):
        """The number that the next deed will have."""
        return len(self._done) + 1

    def record(self, day, by, deed, arguments, answer):
        """Record a deed that was done, begun on this day."""
        self._done.append((self.next_number(), day, by, deed, copied(arguments), answer))

    def save_all(self):
        """Let all deeds up to now survive a crash."""
        self._saved_deeds = len(self._done)
        self._saved_letters = self._sender.sent()
        self._saved_taken = self._receiver.taken()

    def do(self, by, deed, arguments):
        """Do a deed for a user, record it, and return its answer."""
        if deed != "work":
            self.check_no_closing()
        if deed not in TERMS:
            raise BadValue("there is no such deed")
        role, many = TERMS[deed]
        if len(arguments) != many:
            raise BadValue("the number of arguments is wrong")
        if not self.orders.may(by, role):
            raise NotAllowed("the user may not do this")
        self.check_room()
        day = self.day
        action = ACTIONS[deed]
        answer = action(self, by, *arguments)
        self.record(day, by, deed, arguments, answer)
        if deed == "save":
            self.save_all()
        return answer

    def deeds(self):
        """All deeds, as tuples (number, day, by, deed, arguments, answer)."""
        told = self._done
        return [(number, day, by, deed, copied(given), answer) for number, day, by, deed, given, answer in told]

    def outgoing(self):
        """The payments made, as tuples (key, account, bank, account there, amount, state)."""
        return self.payments.outgoing_rows()

    def incoming(self):
        """The payments that came in, as tuples (full key, payer bank, amount, account, state)."""
        return self.payments.incoming_rows()

    def fund(self, amount):
        """Book money that the bank brings to the clearing, save, and return the number of the entry."""
        check_amount(amount)
        self.check_no_closing()
        self.check_room()
        entry = self.ledger.post(self.day, self.day, FUND, [(NOSTRO, amount), (CAPITAL, -amount)])
        self.record(self.day, MAIL, FUND, [amount], entry)
        self.save_all()
        return entry

    def check_receiving(self):
        """Raise an error unless letters can be taken in now."""
        self.check_no_closing()
        self.check_room()
        if self.ledger.entries() >= MOST_ENTRIES:
            raise Full("there are 2000 entries")

    def receive(self, text):
        """Take in the text of a letter from the clearing, and tell whether it was taken."""
        self.check_receiving()
        letter = self._receiver.take(text)
        if letter is None:
            return False
        self.payments.act_on(letter, self.day)
        self.record(self.day, MAIL, MAIL, [text], None)
        return True

    def pending(self):
        """The items of the closing that are left."""
        return self.closing.left_items()

    def saved(self):
        """Tell how many deeds are saved."""
        return self._saved_deeds

    def crash(self):
        """A new bank that the saved deeds make; this one stays as it is."""
        deeds = self.deeds()[:self._saved_deeds]
        return replay(self.name, self.currency, self._founded, self._chief, deeds)

    def outbox(self):
        """The texts of the letters of saved deeds that are not acknowledged."""
        return self._sender.waiting()[:self._saved_letters - self._sender.acknowledged()]

    def unacknowledged(self):
        """Tell how many letters are not acknowledged, those of deeds that are not saved among them."""
        return len(self._sender.waiting())

    def take_ack(self, text):
        """Drop the letters that an ack of the clearing acknowledges, and tell whether there were any."""
        kind, sender, receiver, number, fields = read_letter(text)
        if (kind, sender, receiver) != (ACK, CLEARING, self.name) or len(fields) > 0:
            raise Refused("the letter is no ack of the clearing to this bank")
        if number > self._saved_letters:
            raise Refused("no saved letter has this number")
        before = self._sender.acknowledged()
        self._sender.acknowledge(number)
        return number > before

    def ack(self):
        """The text that tells the clearing how many letters saved deeds took."""
        return write_letter((ACK, self.name, CLEARING, self._saved_taken, []))

    def image(self):
        """A tuple that is equal for two banks exactly if they are in equal states."""
        acknowledged = self._sender.acknowledged()
        deeds = frozen(self._done)
        return (self.name, self.currency, self.day, self._chief, deeds, self._saved_deeds, acknowledged)


def do_mail(bank, deed, arguments):
    """Do a deed that no user did, and return its answer."""
    if len(arguments) != 1:
        raise BadValue("the number of arguments is wrong")
    if deed == FUND:
        return bank.fund(arguments[0])
    if not bank.receive(arguments[0]):
        raise Refused("the letter is not taken")
    return None


def do_again(bank, by, deed, arguments):
    """Do a recorded deed, and return its answer."""
    if by == MAIL and deed in (MAIL, FUND):
        return do_mail(bank, deed, arguments)
    return bank.do(by, deed, arguments)


def repeat(bank, told):
    """Do a recorded deed; raise Refused unless it is done as it is told."""
    number, day, by, deed, arguments, answer = told
    if number != bank.next_number() or day != bank.day:
        raise Refused("the deed has another number or day")
    try:
        got = do_again(bank, by, deed, arguments)
    except BankError:
        raise Refused("the deed cannot be done")
    if got != answer:
        raise Refused("the deed has another answer")


def replay(name, currency, day, chief, deeds):
    """A new bank of this day on which recorded deeds were done."""
    bank = Bank(name, currency, day, chief)
    for told in deeds:
        repeat(bank, told)
    return bank
