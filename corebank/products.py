"""Products: how accounts bear interest, by tiers that change from version to version."""

from corebank.days import is_day
from corebank.errors import BadDay, BadValue, Full
from corebank.steps import check_starts, last_begun

PARTS = 3600000
MOST_TIERS = 8
GREATEST_RATE = 10000
MOST_VERSIONS = 20


def check_tiers(tiers):
    """Raise BadValue unless the pairs (from, rate) are tiers."""
    if not 1 <= len(tiers) <= MOST_TIERS:
        raise BadValue("the number of tiers is not from 1 to 8")
    check_starts([start for start, _ in tiers])
    for _, rate in tiers:
        if not 0 <= rate <= GREATEST_RATE:
            raise BadValue("a rate is not from 0 to 10000")


def parts_of(tiers, size):
    """The parts that a size bears in one day: each tier's slice of it times the tier's rate."""
    ends = [start for start, _ in tiers[1:]] + [size]
    parts = 0
    for (start, rate), end in zip(tiers, ends):
        parts += rate * max(0, min(end, size) - start)
    return parts


def daily_parts(credit, debit, balance):
    """The parts of one day, by the debit tiers and below 0 for a balance below 0."""
    if balance < 0:
        return -parts_of(debit, -balance)
    return parts_of(credit, balance)


class Version:
    """The tiers that a product has from a day on."""

    def __init__(self, first, credit, debit):
        self.first = first
        self.credit = [(start, rate) for start, rate in credit]
        self.debit = [(start, rate) for start, rate in debit]


class Product:
    """A kind of account with its currency, way of rounding, and versions."""

    def __init__(self, name, currency, way):
        self.name = name
        self.currency = currency
        self.way = way
        self._versions = []

    def first_days(self):
        """The first days of the versions, in order."""
        return [version.first for version in self._versions]

    def add_version(self, first, credit, debit):
        """Add the tiers that count from the day `first` on."""
        if not is_day(first):
            raise BadDay("the first day is no day")
        if len(self._versions) > 0 and first <= self._versions[-1].first:
            raise BadDay("the first day is not greater than that of the last version")
        check_tiers(credit)
        check_tiers(debit)
        if len(self._versions) >= MOST_VERSIONS:
            raise Full("there are 20 versions")
        self._versions.append(Version(first, credit, debit))

    def version_at(self, day):
        """The place of the version that counts on a day; None ahead of the first one."""
        return last_begun(self.first_days(), day)

    def parts_at(self, day, balance):
        """The parts that a balance bears on a day."""
        place = self.version_at(day)
        if place is None:
            return 0
        version = self._versions[place]
        return daily_parts(version.credit, version.debit, balance)
