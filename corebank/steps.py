"""Rows that each count from a number on: tiers, versions, and the rows of rules."""

from corebank.amounts import LIMIT
from corebank.errors import BadValue


def check_starts(starts):
    """Raise BadValue unless the numbers begin with 0, grow, and are at most LIMIT."""
    if starts[0] != 0:
        raise BadValue("the first start is not 0")
    for before, start in zip(starts, starts[1:]):
        if start <= before:
            raise BadValue("a start is not greater than the one before it")
        if start > LIMIT:
            raise BadValue("a start is too great")


def last_begun(starts, number):
    """The place of the last of the growing starts that is at most the number; None if there is none."""
    found = None
    for place, start in enumerate(starts):
        if start <= number:
            found = place
    return found
