"""The errors that the library raises on purpose."""


class BankError(ValueError):
    """Above every error of this library; it is never raised itself."""


class BadValue(BankError):
    """A number, a text or a list is not as it must be."""


class BadDay(BankError):
    """A number is no day, or a day that is not allowed here."""


class Missing(BankError):
    """There is no such thing."""


class Refused(BankError):
    """The state of things does not allow this."""


class Full(BankError):
    """There is no room for one more."""


class NotAllowed(BankError):
    """This user may not do this."""


class Damaged(BankError):
    """A text is no letter."""
