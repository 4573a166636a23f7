"""The clearing: members with balances and floors, and payments that wait until they can be settled."""

from corebank.amounts import LIMIT, check_amount
from corebank.errors import BadValue, Full, Missing, Refused
from corebank.orders import check_name

MOST_MEMBERS = 6
LONGEST_KEY = 40


class Clearing:
    """Members, and the payments (key, payer, payee, amount) that wait."""

    def __init__(self):
        self._balances = {}
        self._floors = {}
        self._queue = []
        self._keys = {}

    def check_member(self, name):
        """Raise Missing for a name that no member has."""
        if name not in self._balances:
            raise Missing("there is no such member")

    def add_member(self, name, floor):
        """Add a member whose balance, 0 at first, must not fall below the floor."""
        check_name(name)
        if not -LIMIT <= floor <= 0:
            raise BadValue("the floor is not from -1000000000 to 0")
        if name in self._balances:
            raise Refused("there is a member of this name")
        if len(self._balances) >= MOST_MEMBERS:
            raise Full("there are 6 members")
        self._balances[name] = 0
        self._floors[name] = floor

    def members(self):
        """The names of the members, in the order in which they were added."""
        return list(self._balances)

    def balance_of(self, name):
        """Tell the balance of a member."""
        self.check_member(name)
        return self._balances[name]

    def floor_of(self, name):
        """Tell the floor of a member."""
        self.check_member(name)
        return self._floors[name]

    def fund(self, name, units):
        """Add units, which may be below 0, to the balance of a member."""
        self.check_member(name)
        if not -LIMIT <= units <= LIMIT:
            raise BadValue("the units are out of range")
        if self._balances[name] + units < self._floors[name]:
            raise Refused("the balance would be below the floor")
        self._balances[name] += units

    def submit(self, key, payer, payee, amount):
        """Let a payment wait behind all others."""
        if not 1 <= len(key) <= LONGEST_KEY:
            raise BadValue("the key does not have 1 to 40 signs")
        self.check_member(payer)
        self.check_member(payee)
        if payer == payee:
            raise Refused("the payer is the payee")
        check_amount(amount)
        if key in self._keys:
            raise Refused("a payment with this key was submitted before")
        self._keys[key] = True
        self._queue.append((key, payer, payee, amount))

    def queue(self):
        """The payments that wait, in order."""
        return list(self._queue)

    def find_short(self, balances):
        """The first member whose balance among these is below its floor; None if there is none."""
        for name in balances:
            if balances[name] < self._floors[name]:
                return name
        return None

    def find_choice(self):
        """Which payments of the queue can be settled, as a list of True and False, and the balances then."""
        balances = dict(self._balances)
        places = {name: [] for name in balances}
        for place, (_, payer, payee, amount) in enumerate(self._queue):
            places[payer].append(place)
            balances[payer] -= amount
            balances[payee] += amount
        chosen = [True] * len(self._queue)
        short = self.find_short(balances)
        while short is not None:
            # A member below its floor has a chosen payment: what others pay it only adds to its balance.
            place = places[short].pop()
            _, payer, payee, amount = self._queue[place]
            chosen[place] = False
            balances[payer] += amount
            balances[payee] -= amount
            short = self.find_short(balances)
        return (chosen, balances)

    def settle(self):
        """Settle as many payments as possible, each payer's in order, and return them."""
        chosen, balances = self.find_choice()
        settled = [payment for payment, done in zip(self._queue, chosen) if done]
        self._queue = [payment for payment, done in zip(self._queue, chosen) if not done]
        self._balances = balances
        return settled
