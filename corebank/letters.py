"""Letters: tuples (kind, sender, receiver, number, fields), and the texts that are sent for them."""

from corebank.errors import BadValue, Damaged
from corebank.orders import check_name

GREATEST_NUMBER = 999999
LONGEST_NUMBER = 6
MOST_FIELDS = 8
LONGEST_FIELD = 40
MODULUS = 9973
CHECK_DIGITS = 4
# A text has the kind, the sender, the receiver, the number and the check beside the fields.
OTHER_PARTS = 5


def check_fields(fields):
    """Raise BadValue unless the texts can be the fields of a letter."""
    if len(fields) > MOST_FIELDS:
        raise BadValue("there are more than 8 fields")
    for field in fields:
        if len(field) > LONGEST_FIELD or "|" in field:
            raise BadValue("a field is too long or has a sign that parts it")


def check_letter(letter):
    """Raise BadValue unless the tuple is a letter."""
    kind, sender, receiver, number, fields = letter
    check_name(kind)
    check_name(sender)
    check_name(receiver)
    if not 0 <= number <= GREATEST_NUMBER:
        raise BadValue("the number is not from 0 to 999999")
    check_fields(fields)


def check_digits_of(body):
    """The four digits that stand behind the signs of a letter."""
    total = sum([place * ord(sign) for place, sign in enumerate(body, 1)])
    return str(total % MODULUS).zfill(CHECK_DIGITS)


def write_letter(letter):
    """Write a letter as a text."""
    check_letter(letter)
    kind, sender, receiver, number, fields = letter
    body = "|".join([kind, sender, receiver, str(number)] + fields) + "|"
    return body + check_digits_of(body)


def is_written(letter, text):
    """Tell whether a tuple is a letter that is written as this text."""
    try:
        return write_letter(letter) == text
    except BadValue:
        return False


def read_letter(text):
    """Read a letter from its text."""
    parts = text.split("|")
    if not OTHER_PARTS <= len(parts) <= OTHER_PARTS + MOST_FIELDS:
        raise Damaged("the number of parts is wrong")
    kind, sender, receiver, digits = parts[:4]
    # The length comes first: Python does not convert texts of thousands of digits.
    if len(digits) > LONGEST_NUMBER or not digits.isdigit():
        raise Damaged("the number is not 1 to 6 digits")
    letter = (kind, sender, receiver, int(digits), parts[4:-1])
    # Whatever else is wrong, be it a leading zero or the check, the letter is written otherwise.
    if not is_written(letter, text):
        raise Damaged("no letter is written so")
    return letter
