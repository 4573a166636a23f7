"""Amounts of money: their texts, rounding, and how they are split."""

from corebank.errors import BadValue

LIMIT = 1000000000
GREAT = 1000000000000
WAYS = ("down", "up", "even", "away")
MOST_DIGITS = 3
UNITS = (1, 10, 100, 1000)
LONGEST_TEXT = 18
MOST_WEIGHTS = 60
GREATEST_WEIGHT = 1000000


def is_amount(number):
    """Tell whether a number is an amount: from 1 to LIMIT."""
    return 1 <= number <= LIMIT


def check_amount(amount):
    """Raise BadValue for a number that is no amount."""
    if not is_amount(amount):
        raise BadValue("the amount is not from 1 to 1000000000")


def check_digits(digits):
    """Raise BadValue for another number of decimal digits than 0 to 3."""
    if not 0 <= digits <= MOST_DIGITS:
        raise BadValue("the digits are not from 0 to 3")


def format_amount(amount, digits):
    """Write an amount of the smallest unit with so many decimal digits."""
    check_digits(digits)
    if not -GREAT <= amount <= GREAT:
        raise BadValue("the amount is out of range")
    sign = "-" if amount < 0 else ""
    whole, rest = divmod(abs(amount), UNITS[digits])
    if digits == 0:
        return sign + str(whole)
    return sign + str(whole) + "." + str(rest).zfill(digits)


def is_whole_part(text):
    """Tell whether a text is 0 or a number without leading zeros."""
    return text.isdigit() and (text == "0" or not text.startswith("0"))


def is_decimal_part(text, digits):
    """Tell whether a text is 1 to `digits` digits; there is none with digits 0."""
    return text.isdigit() and len(text) <= digits


def parse_amount(text, digits):
    """Read a text as format_amount writes it; decimal digits may be missing."""
    check_digits(digits)
    # The length comes first: Python does not convert texts of thousands of digits.
    if len(text) > LONGEST_TEXT:
        raise BadValue("the text is too long")
    whole, point, decimals = text.removeprefix("-").partition(".")
    if not is_whole_part(whole):
        raise BadValue("the whole part is wrong")
    if point != "" and not is_decimal_part(decimals, digits):
        raise BadValue("the decimal part is wrong")
    size = int(whole + decimals.ljust(digits, "0"))
    if size > GREAT:
        raise BadValue("the amount is out of range")
    if not text.startswith("-"):
        return size
    if size == 0:
        raise BadValue("0 has a minus sign")
    return -size


def divide_rounded(over, under, way):
    """Divide and round: "down", "up", to the nearest and then "even" or "away"."""
    if under < 1:
        raise BadValue("the divisor is below 1")
    if way not in WAYS:
        raise BadValue("there is no such way of rounding")
    below, rest = divmod(over, under)
    if way == "down" or rest == 0:
        return below
    if way == "up" or 2 * rest > under:
        return below + 1
    if 2 * rest < under:
        return below
    return round_half(below, way)


def round_half(below, way):
    """Round what lies midway between the number `below` and the next one."""
    if way == "even":
        return below + below % 2
    # Midway and under 0, the number below is the one that is farther from 0.
    return below if below < 0 else below + 1


def check_weights(weights):
    """Raise BadValue unless an amount can be split by these weights."""
    if not 1 <= len(weights) <= MOST_WEIGHTS:
        raise BadValue("the number of weights is not from 1 to 60")
    for weight in weights:
        if not 0 <= weight <= GREATEST_WEIGHT:
            raise BadValue("a weight is out of range")
    if sum(weights) == 0:
        raise BadValue("all weights are 0")


def allocate(amount, weights):
    """Split an amount by weights into a list of shares that sum to it."""
    if not 0 <= amount <= GREAT:
        raise BadValue("the amount is out of range")
    check_weights(weights)
    total = sum(weights)
    shares = [amount * weight // total for weight in weights]
    rests = [amount * weight % total for weight in weights]
    # Negated, so that the greatest rest comes first and, of equal ones, the earlier place.
    ranks = sorted([(-rest, place) for place, rest in enumerate(rests)])
    left = amount - sum(shares)
    for _, place in ranks[:left]:
        shares[place] += 1
    return shares


def split_equally(amount, parts):
    """Split an amount into so many shares that differ by at most one unit."""
    if not 1 <= parts <= MOST_WEIGHTS:
        raise BadValue("the number of parts is not from 1 to 60")
    return allocate(amount, [1] * parts)
