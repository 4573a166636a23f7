"""Orders: what users place, and what others must grant before it is done."""

from corebank.amounts import check_amount
from corebank.days import check_day
from corebank.errors import BadValue, Full, Missing, NotAllowed, Refused
from corebank.steps import check_starts, last_begun

ROLES = ("teller", "officer", "chief")
LETTERS = "abcdefghijklmnopqrstuvwxyz"
DIGITS = "0123456789"
LONGEST_NAME = 12
LONGEST_KEY = 20
MOST_ROWS = 6
MOST_GRANTS = 5
MOST_ORDERS = 500


def is_name(text):
    """Tell whether a text is a name: 1 to 12 small letters and digits, a letter first."""
    if not 1 <= len(text) <= LONGEST_NAME:
        return False
    return text[0] in LETTERS and all([sign in LETTERS or sign in DIGITS for sign in text])


def check_name(text):
    """Raise BadValue for a text that is no name."""
    if not is_name(text):
        raise BadValue("the text is no name")


def check_role(role):
    """Raise BadValue for a word that is no role."""
    if role not in ROLES:
        raise BadValue("there is no such role")


def check_rows(rows):
    """Raise BadValue unless the tuples (from, grants, role) make a rule."""
    if not 1 <= len(rows) <= MOST_ROWS:
        raise BadValue("the number of rows is not from 1 to 6")
    check_starts([start for start, _, _ in rows])
    for _, grants, role in rows:
        if not 0 <= grants <= MOST_GRANTS:
            raise BadValue("the grants are not from 0 to 5")
        check_role(role)


class Order:
    """One order; how many grants it requires, and of which role, stays as it is."""

    def __init__(self, by, kind, amount, key, until):
        self.by = by
        self.kind = kind
        self.amount = amount
        self.key = key
        self.until = until
        self.required = 0
        self.role = None
        self.grants = []
        self.state = "ready"

    def require(self, grants, role):
        """Let the order wait for so many grants of users of this role."""
        self.required = grants
        self.role = role
        self.state = "waiting"


class Orders:
    """Users, rules, and the orders that users placed, numbered from 1."""

    def __init__(self):
        self._roles = {}
        self._rules = {}
        self._orders = []
        self._numbers_by_key = {}

    def add_user(self, name, role):
        """Add a user."""
        check_name(name)
        check_role(role)
        if name in self._roles:
            raise Refused("there is a user of this name")
        self._roles[name] = role

    def role_of(self, name):
        """Tell the role of a user."""
        if name not in self._roles:
            raise Missing("there is no such user")
        return self._roles[name]

    def may(self, name, role):
        """Tell whether there is the user, and has this role or a higher one."""
        check_role(role)
        if name not in self._roles:
            return False
        return ROLES.index(self._roles[name]) >= ROLES.index(role)

    def set_rule(self, kind, rows):
        """Set how many grants, and of which role, orders of a kind require from which amount on."""
        check_name(kind)
        check_rows(rows)
        self._rules[kind] = [(start, grants, role) for start, grants, role in rows]

    def row_for(self, kind, amount):
        """The row of the rule that counts for an amount; one without grants if there is no rule."""
        if kind not in self._rules:
            return (0, 0, None)
        rows = self._rules[kind]
        return rows[last_begun([start for start, _, _ in rows], amount)]

    def check_user(self, name):
        """Raise NotAllowed for a name that no user has."""
        if name not in self._roles:
            raise NotAllowed("there is no such user")

    def check_placing(self, by, kind, amount, key, until):
        """Raise an error unless an order may be placed with these arguments."""
        self.check_user(by)
        check_name(kind)
        check_amount(amount)
        if not 1 <= len(key) <= LONGEST_KEY:
            raise BadValue("the key does not have 1 to 20 signs")
        check_day(until)

    def place(self, by, kind, amount, key, until):
        """Place an order and return its number; the same order again has the number of the first."""
        self.check_placing(by, kind, amount, key, until)
        number = self.by_key(key)
        if number is not None:
            order = self.order_at(number)
            if (order.by, order.kind, order.amount) != (by, kind, amount):
                raise Refused("another order has this key")
            return number
        if len(self._orders) >= MOST_ORDERS:
            raise Full("there are 500 orders")
        order = Order(by, kind, amount, key, until)
        _, grants, role = self.row_for(kind, amount)
        if grants > 0:
            order.require(grants, role)
        self._orders.append(order)
        self._numbers_by_key[key] = len(self._orders)
        return len(self._orders)

    def order_at(self, number):
        """The order of this number."""
        if not 1 <= number <= len(self._orders):
            raise Missing("there is no such order")
        return self._orders[number - 1]

    def waiting_for(self, by, number):
        """The waiting order of this number, if `by` is a user who may decide on it."""
        self.check_user(by)
        order = self.order_at(number)
        if order.state != "waiting":
            raise Refused("the order is not waiting")
        if by == order.by:
            raise NotAllowed("the user placed the order")
        if not self.may(by, order.role):
            raise NotAllowed("the role of the user is too low")
        return order

    def grant(self, by, number):
        """Grant an order; with the last grant that it requires it is ready."""
        order = self.waiting_for(by, number)
        if by in order.grants:
            raise NotAllowed("the user has granted the order")
        order.grants.append(by)
        if len(order.grants) == order.required:
            order.state = "ready"
        return order.state

    def reject(self, by, number):
        """Reject a waiting order."""
        order = self.waiting_for(by, number)
        order.state = "rejected"
        return order.state

    def withdraw(self, by, number):
        """Take back an order that the same user placed."""
        order = self.order_at(number)
        if by != order.by:
            raise NotAllowed("another user placed the order")
        if order.state not in ("waiting", "ready"):
            raise Refused("the order is neither waiting nor ready")
        order.state = "withdrawn"
        return order.state

    def expire(self, day):
        """End each waiting or ready order whose last day is below `day`, and return their numbers."""
        expired = []
        for place, order in enumerate(self._orders):
            if order.state in ("waiting", "ready") and order.until < day:
                order.state = "expired"
                expired.append(place + 1)
        return expired

    def end_ready(self, number, state):
        """Give a ready order its last state, and return it."""
        order = self.order_at(number)
        if order.state != "ready":
            raise Refused("the order is not ready")
        order.state = state
        return state

    def complete(self, number):
        """Tell that a ready order was carried out."""
        return self.end_ready(number, "done")

    def fail(self, number):
        """Tell that a ready order could not be carried out."""
        return self.end_ready(number, "failed")

    def order(self, number):
        """An order as (by, kind, amount, key, until, required, role, grants, state)."""
        found = self.order_at(number)
        told = (found.by, found.kind, found.amount, found.key, found.until)
        return told + (found.required, found.role, list(found.grants), found.state)

    def by_key(self, key):
        """The number of the order with this key; None if there is none."""
        return self._numbers_by_key.get(key)
