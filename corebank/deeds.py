"""The deeds: what the users of a bank can do, each a function of the bank, the user, and the arguments."""

from corebank.amounts import WAYS
from corebank.chart import CASH
from corebank.days import is_day
from corebank.errors import BadDay, BadValue, Missing, Refused
from corebank.orders import check_name
from corebank.products import Product

CASH_CAUSE = "cash"
# The role that a user must have, and the number of arguments.
TERMS = {
    "hire": ("chief", 2),
    "rule": ("chief", 2),
    "product": ("officer", 2),
    "version": ("officer", 4),
    "start": ("teller", 2),
    "limit": ("officer", 2),
    "freeze": ("officer", 1),
    "thaw": ("officer", 1),
    "finish": ("officer", 1),
    "cashin": ("teller", 3),
    "cashout": ("teller", 3),
    "transfer": ("teller", 4),
    "grant": ("officer", 1),
    "reject": ("officer", 1),
    "withdraw": ("teller", 1),
    "pay": ("teller", 5),
    "undo": ("chief", 2),
    "save": ("teller", 0),
    "close": ("chief", 0),
    "work": ("teller", 1),
}


def do_hire(bank, by, name, role):
    """Add a user."""
    bank.orders.add_user(name, role)


def do_rule(bank, by, kind, rows):
    """Set the rule for a kind of order."""
    bank.orders.set_rule(kind, rows)


def do_product(bank, by, name, way):
    """Add a product in the bank's currency."""
    check_name(name)
    if way not in WAYS:
        raise BadValue("there is no such way of rounding")
    if name in bank.products:
        raise Refused("there is a product of this name")
    bank.products[name] = Product(name, bank.currency, way)


def find_product(bank, name):
    """The product of this name."""
    if name not in bank.products:
        raise Missing("there is no such product")
    return bank.products[name]


def do_version(bank, by, name, first, credit, debit):
    """Add a version to a product, from today on or later."""
    product = find_product(bank, name)
    if first < bank.day:
        raise BadDay("the first day is below the bank's day")
    product.add_version(first, credit, debit)


def do_start(bank, by, name, owner):
    """Start a deposit account, and return its number."""
    product = find_product(bank, name)
    check_name(owner)
    return bank.deposits.start(product, owner, bank.day)


def do_limit(bank, by, account, limit):
    """Set the limit of an account."""
    bank.deposits.set_limit(account, limit)


def do_freeze(bank, by, account):
    """Freeze an account."""
    bank.deposits.freeze(account)


def do_thaw(bank, by, account):
    """Thaw an account."""
    bank.deposits.thaw(account)


def parts_to_finish(bank, account, last):
    """The parts that an account has accrued when it is closed, `last` being the day before the bank's."""
    if last < bank.deposits.opened_on(account):
        return bank.deposits.accrued(account)
    return bank.deposits.would_accrue(account, last)


def do_finish(bank, by, account):
    """Close an account on which nothing is left, with interest up to yesterday."""
    deposits = bank.deposits
    last = bank.day - 1
    if deposits.state_of(account) != "open":
        raise Refused("the account is not open")
    if deposits.own_balance(account) != 0:
        raise Refused("the balance is not 0")
    if deposits.held(account) != 0:
        raise Refused("an amount is held")
    if parts_to_finish(bank, account, last) != 0:
        raise Refused("interest is accrued")
    if last >= deposits.opened_on(account):
        deposits.accrue(account, last)
    deposits.finish(account)


def check_value_day(bank, value):
    """Raise BadDay unless a value day is a day up to the bank's."""
    if not is_day(value) or value > bank.day:
        raise BadDay("the value day is no day or above the bank's day")


def do_cashin(bank, by, account, amount, value):
    """Take in cash, and return the number of the entry."""
    bank.deposits.check_credit(account, amount)
    check_value_day(bank, value)
    return bank.ledger.post(bank.day, value, CASH_CAUSE, [(CASH, amount), (account, -amount)])


def do_cashout(bank, by, account, amount, value):
    """Hand out cash, and return the number of the entry."""
    bank.deposits.check_debit(account, amount)
    check_value_day(bank, value)
    return bank.ledger.post(bank.day, value, CASH_CAUSE, [(CASH, -amount), (account, amount)])


def do_transfer(bank, by, source, target, amount, key):
    """Place an order for a transfer, and return its number."""
    return bank.transfers.arrange(by, source, target, amount, key, bank.day)


def do_grant(bank, by, order):
    """Grant an order, and return its state."""
    return bank.transfers.grant_order(by, order, bank.day)


def do_reject(bank, by, order):
    """Reject an order, and return its state."""
    return bank.transfers.reject_order(by, order)


def do_withdraw(bank, by, order):
    """Take back an order, and return its state."""
    return bank.transfers.withdraw_order(by, order)


def do_pay(bank, by, account, payee, there, amount, key):
    """Pay to an account of another bank, and return the key."""
    return bank.payments.pay(bank.day, account, payee, there, amount, key)


def do_undo(bank, by, number, cause):
    """Reverse an entry for cash, and return the number of the new entry."""
    _, _, _, old_cause, lines, _, _ = bank.ledger.entry(number)
    if old_cause != CASH_CAUSE:
        raise Refused("the entry is not for cash")
    # The first line of an entry for cash is that of the account CASH.
    account, _ = lines[1]
    if bank.deposits.state_of(account) == "closed":
        raise Refused("the account is closed")
    return bank.ledger.reverse(number, bank.day, cause)


def do_save(bank, by):
    """Return how many deeds are saved with this one; the bank saves them when it has recorded it."""
    return bank.next_number()


def do_close(bank, by):
    """Begin the closing of the day, and return how many items there are."""
    return bank.closing.begin(bank.day)


def do_work(bank, by, number):
    """Do items of the closing, and return how many are left; without any left the next day begins."""
    left = bank.closing.go_on(number, bank.day)
    if left == 0:
        bank.day += 1
    return left


ACTIONS = {
    "hire": do_hire,
    "rule": do_rule,
    "product": do_product,
    "version": do_version,
    "start": do_start,
    "limit": do_limit,
    "freeze": do_freeze,
    "thaw": do_thaw,
    "finish": do_finish,
    "cashin": do_cashin,
    "cashout": do_cashout,
    "transfer": do_transfer,
    "grant": do_grant,
    "reject": do_reject,
    "withdraw": do_withdraw,
    "pay": do_pay,
    "undo": do_undo,
    "save": do_save,
    "close": do_close,
    "work": do_work,
}
