"""A system: banks, their clearing, and the letters that are on the way between them."""

from corebank.bank import Bank
from corebank.chart import CASH, CLEARING, NOSTRO, SUSPENSE, TRANSIT
from corebank.clearing import Clearing
from corebank.errors import BadValue, BankError, Damaged, Missing, Refused
from corebank.letters import read_letter
from corebank.links import ACK, Receiver, Sender
from corebank.orders import check_name

CHIEF = "boss"
FEWEST_BANKS = 2
MOST_BANKS = 6


def check_bank_names(names):
    """Raise BadValue unless a system can have banks of these names."""
    if not FEWEST_BANKS <= len(names) <= MOST_BANKS:
        raise BadValue("there are not 2 to 6 names")
    for place, name in enumerate(names):
        check_name(name)
        if name == CLEARING or name in names[:place]:
            raise BadValue("the clearing or another bank has this name")


def find_letter(text):
    """The letter of a text; None if the text is no letter."""
    try:
        return read_letter(text)
    except Damaged:
        return None


def own_total(bank):
    """What a bank owes its customers, and 0 minus what stands for it on the bank's own accounts."""
    owed = sum([bank.deposits.own_balance(account) for account in bank.deposits.numbers()])
    return owed - sum([bank.ledger.balance(account, None, None) for account in (SUSPENSE, TRANSIT, NOSTRO, CASH)])


class System:
    """Banks and their clearing; `mail` is the list of the texts on the way, the oldest first."""

    def __init__(self, currency, day, names):
        check_bank_names(names)
        self.clearing = Clearing()
        self.mail = []
        self._banks = {}
        # The clearing's ends of the links, by the names of the banks.
        self._senders = {}
        self._receivers = {}
        # Of each payment that the clearing took, the text of the account that is paid to.
        self._accounts = {}
        self._refused = {}
        for name in names:
            self._banks[name] = Bank(name, currency, day, CHIEF)
            self.clearing.add_member(name, 0)
            self._senders[name] = Sender(CLEARING, name)
            self._receivers[name] = Receiver(CLEARING, name)

    def bank(self, name):
        """The bank of this name, itself."""
        if name not in self._banks:
            raise Missing("there is no such bank")
        return self._banks[name]

    def fund(self, name, amount):
        """Let a bank bring in money, in its books and at the clearing."""
        self.bank(name).fund(amount)
        self.clearing.fund(name, amount)

    def collect(self):
        """Put all that is to be sent, or sent again, behind the mail, and return how many texts this is."""
        texts = []
        for name in self._banks:
            texts += self._banks[name].outbox()
        for name in self._banks:
            texts += self._senders[name].waiting()
        texts += [self._banks[name].ack() for name in self._banks]
        texts += [self._receivers[name].ack() for name in self._banks]
        self.mail += texts
        return len(texts)

    def text_at(self, place):
        """The text at this place of the mail."""
        if not 0 <= place < len(self.mail):
            raise Missing("there is no such place in the mail")
        return self.mail[place]

    def must_stay(self, letter):
        """Tell whether a letter is for a bank that cannot receive it now."""
        kind, _, receiver, _, _ = letter
        if kind == ACK or receiver == CLEARING:
            return False
        try:
            self._banks[receiver].check_receiving()
        except BankError:
            return True
        return False

    def deliver(self, place):
        """Give the text at this place to its receiver, and tell whether it had an effect there."""
        text = self.text_at(place)
        letter = find_letter(text)
        if letter is not None and self.must_stay(letter):
            return False
        del self.mail[place]
        return letter is not None and self.give(text, letter)

    def give(self, text, letter):
        """Give a letter to its receiver, and tell whether it had an effect there."""
        kind, sender, receiver, number, _ = letter
        if receiver != CLEARING and kind == ACK:
            return self._banks[receiver].take_ack(text)
        if receiver != CLEARING:
            return self._banks[receiver].receive(text)
        if kind == ACK:
            return self.take_ack_of(sender, number)
        return self.take_payment(sender, text)

    def take_ack_of(self, name, number):
        """Let the clearing take an ack of a bank, and tell whether it took effect."""
        sender = self._senders[name]
        before = sender.acknowledged()
        sender.acknowledge(number)
        return number > before

    def take_payment(self, payer, text):
        """Let the clearing take a payment of a bank, and tell whether it took it."""
        letter = self._receivers[payer].take(text)
        if letter is None:
            return False
        key, payee, amount, account = letter[4]
        self._accounts[key] = account
        try:
            self.clearing.submit(key, payer, payee, int(amount))
        except BankError:
            self._refused[key] = True
            self._senders[payer].dispatch("funds", [key, payer, amount, "0"])
        return True

    def duplicate(self, place):
        """Put the text at this place a second time behind the mail."""
        self.mail.append(self.text_at(place))

    def lose(self, place):
        """Take the text at this place out of the mail."""
        self.text_at(place)
        del self.mail[place]

    def spoil(self, place, at, sign):
        """Replace one sign of the text at this place."""
        text = self.text_at(place)
        if not 0 <= at < len(text) or len(sign) != 1:
            raise BadValue("there is no such sign in the text, or it is not replaced by a single one")
        if find_letter(text) is None:
            raise Refused("the text is no letter any more")
        self.mail[place] = text[:at] + sign + text[at + 1:]

    def settle(self):
        """Let the clearing settle, tell the banks by letters, and return the full keys."""
        settled = self.clearing.settle()
        for key, payer, payee, amount in settled:
            self._senders[payer].dispatch("settled", [key])
            self._senders[payee].dispatch("funds", [key, payer, str(amount), self._accounts[key]])
        return [key for key, _, _, _ in settled]

    def crash(self, name):
        """Let a bank fall back to its saved deeds."""
        self._banks[name] = self.bank(name).crash()

    def quiet(self):
        """Tell whether nothing is on its way that could still change a bank."""
        if len(self.clearing.queue()) > 0:
            return False
        for name in self._banks:
            bank = self._banks[name]
            if bank.unacknowledged() > 0 or len(self._senders[name].waiting()) > 0:
                return False
            if "made" in [row[5] for row in bank.outgoing()]:
                return False
        return True

    def find_payment(self, full_key):
        """The payment of this full key, as the bank that made it lists it; None if there is none."""
        name, _, key = full_key.partition("/")
        if name not in self._banks:
            return None
        found = [row for row in self._banks[name].outgoing() if row[0] == key]
        return found[0] if len(found) > 0 else None

    def stage(self, full_key):
        """Tell where a payment is; None if no bank lists it."""
        payment = self.find_payment(full_key)
        if payment is None:
            return None
        _, _, payee, _, _, state = payment
        if state == "returned":
            return "home"
        if full_key not in self._accounts:
            return "bank"
        if full_key in self._refused:
            return "back"
        if full_key in [row[0] for row in self.clearing.queue()]:
            return "clearing"
        if full_key in [row[0] for row in self.bank(payee).incoming()]:
            return "home"
        return "paid"

    def total(self):
        """What the banks owe, less what stands for it on their own accounts: no letter ever changes it."""
        return sum([own_total(bank) for bank in list(self._banks.values())])
