"""Statements of an account of a ledger: by booking days, and the balances by value days."""

from corebank.days import is_day
from corebank.errors import BadDay, BadValue

MOST_DAYS = 400


def check_span(first, last):
    """Raise BadDay unless both are days and the first is not above the last."""
    if not is_day(first) or not is_day(last):
        raise BadDay("there is no such day")
    if first > last:
        raise BadDay("the first day is above the last one")


def statement(ledger, account, first, last):
    """The opening balance, the rows of the lines booked from first to last, and the closing balance."""
    lines = ledger.lines_of(account)
    check_span(first, last)
    opening = ledger.balance(account, first - 1, None)
    balance = opening
    rows = []
    for number, booked, valued, units in lines:
        if first <= booked <= last:
            balance += units
            rows.append((number, booked, valued, units, balance))
    return (opening, rows, balance)


def daily(ledger, account, first, last):
    """The balances by value day, one for each day from first to last."""
    # Asked first, because the account is checked ahead of the days.
    ledger.lines_of(account)
    check_span(first, last)
    if last - first + 1 > MOST_DAYS:
        raise BadValue("there are more than 400 days")
    return [ledger.balance(account, None, day) for day in range(first, last + 1)]
