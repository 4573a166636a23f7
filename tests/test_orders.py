"""[3] and [26] to [29]: names, users, rules and orders."""

import unittest

from corebank.amounts import LIMIT
from corebank.days import LAST_DAY
from corebank.errors import BadDay, BadValue, Full, Missing, NotAllowed, Refused
from corebank.orders import ROLES, Orders, is_name
from tests.helper import Case

NAMES = ["a", "z", "a0", "z9", "bob", "a1b2c3d4e5f6", "abcdefghijkl", "z99999999999", "clearing", "aa"]
NO_NAMES = ["", "abcdefghijklm", "a123456789012", "0", "9a", "1abc", "A", "Bob", "boB", "b ob", " bob", "bob ", " ", "b-ob",
            "b_ob", "_bob", "b.ob", "b|ob", "b/ob", "`", "a`", "a{", "a:", "a@", "~"]
NO_DAYS = [-1, LAST_DAY + 1, 10 ** 9]
OTHER_ROLES = ["", "Teller", "boss", "tellers", "chief ", "CHIEF", "offi"]
STATES = ["waiting", "ready", "rejected", "withdrawn", "expired", "done", "failed"]


class NameTest(Case):

    def test_names(self):
        for text in NAMES:
            self.answers(True, is_name, text)
        for text in NO_NAMES:
            self.answers(False, is_name, text)

    def test_each_sign(self):
        letters, digits = "abcdefghijklmnopqrstuvwxyz", "0123456789"
        for code in range(32, 127):
            sign = chr(code)
            self.answers(sign in letters, is_name, sign)
            self.answers(sign in letters + digits, is_name, "a" + sign)
            self.answers(sign in letters + digits, is_name, "a" + sign + "b")


class OrdersCase(Case):

    def setUp(self):
        self.orders = Orders()
        self.names = ["ted", "tom", "olga", "otto", "carl", "cleo"]
        for name, role in zip(self.names, ["teller", "teller", "officer", "officer", "chief", "chief"]):
            self.orders.add_user(name, role)
        self.placed = 0

    def picture(self):
        """All that the orders tell."""
        told = []
        try:
            while True:
                told.append(self.orders.order(len(told) + 1))
        except Missing:
            roles = []
            for name in self.names:
                roles.append(self.orders.role_of(name))
            return told, roles

    def fails(self, error, function, *arguments):
        """The call raises the error and changes nothing."""
        before = self.picture()
        self.raises(error, function, *arguments)
        self.assertEqual(self.picture(), before)

    def new_order(self, grants=0, role="officer", by="ted", until=50):
        """Place an order that requires so many grants, and return its number."""
        self.placed += 1
        kind = "kind" + str(self.placed)
        if grants > 0:
            self.orders.set_rule(kind, [(0, grants, role)])
        return self.orders.place(by, kind, 100, "key" + str(self.placed), until)

    def state(self, number):
        return self.orders.order(number)[8]

    def order_in(self, state):
        """Place an order by ted and bring it into this state."""
        if state in ("ready", "done", "failed"):
            number = self.new_order()
        else:
            number = self.new_order(2)
        if state == "rejected":
            self.orders.reject("olga", number)
        elif state == "withdrawn":
            self.orders.withdraw("ted", number)
        elif state == "expired":
            self.orders.expire(51)
        elif state == "done":
            self.orders.complete(number)
        elif state == "failed":
            self.orders.fail(number)
        self.assertEqual(self.state(number), state)
        return number


class UsersTest(OrdersCase):

    def test_roles(self):
        self.assertEqual(ROLES, ("teller", "officer", "chief"))
        ranks = {"teller": 0, "officer": 1, "chief": 2}
        for name in self.names:
            own = self.orders.role_of(name)
            for role in ROLES:
                self.answers(ranks[own] >= ranks[role], self.orders.may, name, role)
        self.answers("teller", self.orders.role_of, "tom")
        self.answers("officer", self.orders.role_of, "olga")
        self.answers("chief", self.orders.role_of, "cleo")

    def test_no_such_user(self):
        for name in ["nobody", "", "TED", "ted ", "a" * 50]:
            for role in ROLES:
                self.answers(False, self.orders.may, name, role)
            self.raises(Missing, self.orders.role_of, name)
        self.raises(Missing, Orders().role_of, "ted")
        self.answers(False, Orders().may, "ted", "teller")

    def test_other_roles(self):
        for role in OTHER_ROLES:
            for name in ["ted", "carl", "nobody", ""]:
                self.raises(BadValue, self.orders.may, name, role)
            self.fails(BadValue, self.orders.add_user, "new", role)
            self.fails(BadValue, self.orders.add_user, "ted", role)
        self.raises(Missing, self.orders.role_of, "new")

    def test_add_user(self):
        orders = Orders()
        for name in NAMES:
            self.answers(None, orders.add_user, name, "officer")
            self.answers("officer", orders.role_of, name)
        for name in NO_NAMES:
            for role in ["teller", "boss"]:
                self.raises(BadValue, orders.add_user, name, role)
            self.raises(Missing, orders.role_of, name)

    def test_a_name_twice(self):
        for role in ROLES:
            self.fails(Refused, self.orders.add_user, "olga", role)
        self.answers("officer", self.orders.role_of, "olga")


class RulesTest(OrdersCase):

    def required(self, kind, amount):
        """How many grants an order of this kind requires now, and of which role."""
        self.placed += 1
        number = self.orders.place("ted", kind, amount, "rule" + str(self.placed), 0)
        return self.orders.order(number)[5:7]

    def test_rows_by_amount(self):
        rows = [(0, 0, "teller"), (100, 1, "officer"), (1000, 2, "chief"), (LIMIT, 5, "teller")]
        self.answers(None, self.orders.set_rule, "pay", rows)
        self.assertEqual(rows, [(0, 0, "teller"), (100, 1, "officer"), (1000, 2, "chief"), (LIMIT, 5, "teller")])
        for amount, row in [(1, (0, None)), (99, (0, None)), (100, (1, "officer")), (101, (1, "officer")),
                            (999, (1, "officer")), (1000, (2, "chief")), (LIMIT - 1, (2, "chief")), (LIMIT, (5, "teller"))]:
            self.answers(row, self.required, "pay", amount)
        self.answers((0, None), self.required, "other", 1000)

    def test_one_and_six_rows(self):
        self.orders.set_rule("one", [(0, 3, "teller")])
        self.answers((3, "teller"), self.required, "one", 1)
        self.answers((3, "teller"), self.required, "one", LIMIT)
        self.orders.set_rule("six", [(10 * k, k, "chief") for k in range(6)])
        for amount, row in [(9, (0, None)), (10, (1, "chief")), (49, (4, "chief")), (50, (5, "chief"))]:
            self.answers(row, self.required, "six", amount)

    def test_wrong_rows(self):
        self.orders.set_rule("pay", [(0, 4, "chief")])
        for rows in [[], [(10 * k, 1, "chief") for k in range(7)], [(1, 1, "chief")], [(-1, 1, "chief")],
                     [(-1, 1, "chief"), (0, 1, "chief")], [(0, 1, "chief"), (0, 1, "chief")],
                     [(0, 1, "chief"), (9, 1, "chief"), (9, 1, "chief")], [(0, 1, "chief"), (9, 1, "chief"), (8, 1, "chief")],
                     [(0, 1, "chief"), (LIMIT + 1, 1, "chief")], [(0, -1, "chief")], [(0, 6, "chief")],
                     [(0, 1, "chief"), (5, -1, "chief")], [(0, 1, "chief"), (5, 6, "chief")], [(0, 1, "boss")],
                     [(0, 0, "")], [(0, 1, "chief"), (5, 1, "Chief")]]:
            self.raises(BadValue, self.orders.set_rule, "pay", rows)
            self.raises(BadValue, self.orders.set_rule, "new", rows)
        self.answers((4, "chief"), self.required, "pay", 7)
        self.answers((0, None), self.required, "new", 7)

    def test_kinds(self):
        for kind in NAMES:
            self.answers(None, self.orders.set_rule, kind, [(0, 1, "chief")])
        for kind in NO_NAMES:
            self.raises(BadValue, self.orders.set_rule, kind, [(0, 1, "chief")])
            self.raises(BadValue, self.orders.set_rule, kind, [])

    def test_a_new_rule_in_place_of_the_old_one(self):
        self.orders.set_rule("pay", [(0, 0, "chief"), (100, 2, "chief")])
        self.orders.set_rule("pay", [(0, 1, "officer")])
        self.answers((1, "officer"), self.required, "pay", 1)
        self.answers((1, "officer"), self.required, "pay", 500)

    def test_rows_are_not_kept(self):
        rows = [(0, 0, "chief"), (100, 2, "chief")]
        self.orders.set_rule("pay", rows)
        rows[0] = (0, 5, "teller")
        rows.pop()
        self.answers((0, None), self.required, "pay", 1)
        self.answers((2, "chief"), self.required, "pay", 500)


class PlaceTest(OrdersCase):

    def test_ready(self):
        self.answers(None, self.orders.by_key, "k1")
        self.answers(1, self.orders.place, "ted", "pay", 100, "k1", 50)
        self.answers(("ted", "pay", 100, "k1", 50, 0, None, [], "ready"), self.orders.order, 1)
        self.answers(1, self.orders.by_key, "k1")
        self.answers(2, self.orders.place, "carl", "pay", 1, "k2", 0)
        self.answers(("carl", "pay", 1, "k2", 0, 0, None, [], "ready"), self.orders.order, 2)
        self.answers(2, self.orders.by_key, "k2")
        self.answers(None, self.orders.by_key, "k")

    def test_waiting(self):
        self.orders.set_rule("pay", [(0, 0, "chief"), (100, 2, "officer")])
        self.orders.place("ted", "pay", 99, "k1", 50)
        self.orders.place("ted", "pay", 100, "k2", 50)
        self.orders.place("ted", "other", 100, "k3", 50)
        self.answers(("ted", "pay", 99, "k1", 50, 0, None, [], "ready"), self.orders.order, 1)
        self.answers(("ted", "pay", 100, "k2", 50, 2, "officer", [], "waiting"), self.orders.order, 2)
        self.answers(("ted", "other", 100, "k3", 50, 0, None, [], "ready"), self.orders.order, 3)

    def test_the_rule_as_it_stood(self):
        self.orders.set_rule("pay", [(0, 1, "officer")])
        self.orders.place("ted", "pay", 100, "k1", 50)
        self.orders.place("ted", "gift", 100, "k2", 50)
        self.orders.set_rule("pay", [(0, 5, "chief")])
        self.orders.set_rule("gift", [(0, 5, "chief")])
        self.answers(("ted", "pay", 100, "k1", 50, 1, "officer", [], "waiting"), self.orders.order, 1)
        self.answers(("ted", "gift", 100, "k2", 50, 0, None, [], "ready"), self.orders.order, 2)
        self.answers("ready", self.orders.grant, "olga", 1)
        self.orders.set_rule("pay", [(0, 0, "chief")])
        self.answers(("ted", "pay", 100, "k1", 50, 1, "officer", ["olga"], "ready"), self.orders.order, 1)

    def test_bounds(self):
        for key in ["k", " ", "~" * 20, "a|b/c d"]:
            self.orders.place("ted", "pay", 1, key, 0)
            self.answers(key, lambda: self.orders.order(self.orders.by_key(key))[3])
        self.orders.place("ted", "a", LIMIT, "k5", LAST_DAY)
        for kind in NO_NAMES:
            self.fails(BadValue, self.orders.place, "ted", kind, 1, "new", 0)
        for amount in [0, -1, LIMIT + 1, 10 ** 12]:
            self.fails(BadValue, self.orders.place, "ted", "pay", amount, "new", 0)
        for key in ["", "k" * 21, "k" * 100]:
            self.fails(BadValue, self.orders.place, "ted", "pay", 1, key, 0)
        for until in NO_DAYS:
            self.fails(BadDay, self.orders.place, "ted", "pay", 1, "new", until)
        for by in ["nobody", "", "TED"]:
            self.fails(NotAllowed, self.orders.place, by, "pay", 1, "new", 0)
        self.answers(None, self.orders.by_key, "new")

    def test_two_things_wrong(self):
        self.fails(NotAllowed, self.orders.place, "nobody", "", 0, "", -1)
        for kind, amount, key in [("", 1, "k"), ("pay", 0, "k"), ("pay", 1, ""), ("", 0, "")]:
            self.fails(BadValue, self.orders.place, "ted", kind, amount, key, -1)
            self.fails(NotAllowed, self.orders.place, "nobody", kind, amount, key, 0)

    def test_the_same_key(self):
        self.orders.place("ted", "pay", 100, "k1", 50)
        self.orders.place("ted", "pay", 100, "k2", 50)
        before = self.picture()
        self.answers(1, self.orders.place, "ted", "pay", 100, "k1", 50)
        self.answers(2, self.orders.place, "ted", "pay", 100, "k2", 0)
        self.assertEqual(self.picture(), before)
        self.fails(Refused, self.orders.place, "tom", "pay", 100, "k1", 50)
        self.fails(Refused, self.orders.place, "ted", "gift", 100, "k1", 50)
        self.fails(Refused, self.orders.place, "ted", "pay", 101, "k1", 50)
        self.fails(BadDay, self.orders.place, "ted", "pay", 100, "k1", -1)
        self.fails(BadDay, self.orders.place, "tom", "pay", 100, "k1", LAST_DAY + 1)
        self.fails(BadValue, self.orders.place, "ted", "pay", 0, "k1", 50)
        self.fails(BadValue, self.orders.place, "ted", "Pay", 100, "k1", 50)
        self.fails(NotAllowed, self.orders.place, "nobody", "pay", 100, "k1", 50)

    def test_the_same_key_in_each_state(self):
        for state in STATES:
            number = self.order_in(state)
            _, kind, amount, key, _, _, _, _, _ = self.orders.order(number)
            before = self.picture()
            self.answers(number, self.orders.place, "ted", kind, amount, key, 7)
            self.assertEqual(self.picture(), before)
            self.fails(Refused, self.orders.place, "tom", kind, amount, key, 7)

    def test_at_most_500(self):
        for number in range(1, 501):
            self.answers(number, self.orders.place, "ted", "pay", 5, "k" + str(number), 0)
            self.orders.complete(number)
        self.fails(Full, self.orders.place, "ted", "pay", 5, "new", 0)
        self.answers(None, self.orders.by_key, "new")
        self.answers(500, self.orders.place, "ted", "pay", 5, "k500", 0)
        self.fails(Refused, self.orders.place, "ted", "pay", 6, "k500", 0)
        self.fails(BadDay, self.orders.place, "ted", "pay", 5, "new", -1)
        self.fails(NotAllowed, self.orders.place, "nobody", "pay", 5, "new", 0)

    def test_lists_are_not_kept(self):
        number = self.new_order(2)
        self.orders.grant("olga", number)
        self.orders.order(number)[7].append("carl")
        self.orders.order(number)[7].clear()
        self.answers(["olga"], lambda: self.orders.order(number)[7])
        self.answers("ready", self.orders.grant, "carl", number)

    def test_missing(self):
        self.new_order(1)
        for number in [0, -1, 2, 500, 10 ** 12]:
            self.fails(Missing, self.orders.order, number)
            self.fails(Missing, self.orders.complete, number)
            self.fails(Missing, self.orders.fail, number)
            for call in [self.orders.grant, self.orders.reject]:
                self.fails(Missing, call, "olga", number)
                self.fails(Missing, call, "ted", number)
                self.fails(NotAllowed, call, "nobody", number)
            self.fails(Missing, self.orders.withdraw, "ted", number)
            self.fails(Missing, self.orders.withdraw, "nobody", number)


class GrantTest(OrdersCase):

    def test_as_many_as_required(self):
        number = self.new_order(3, "teller")
        self.answers("waiting", self.orders.grant, "tom", number)
        self.answers("waiting", self.orders.grant, "carl", number)
        self.answers((3, "teller", ["tom", "carl"], "waiting"), lambda: self.orders.order(number)[5:])
        self.answers("ready", self.orders.grant, "olga", number)
        self.answers((3, "teller", ["tom", "carl", "olga"], "ready"), lambda: self.orders.order(number)[5:])

    def test_five_grants(self):
        number = self.new_order(5, "teller")
        for by in ["tom", "olga", "otto", "carl"]:
            self.answers("waiting", self.orders.grant, by, number)
        self.answers("ready", self.orders.grant, "cleo", number)

    def test_who_may(self):
        for role, able in [("teller", ["tom", "olga", "carl"]), ("officer", ["olga", "carl"]), ("chief", ["carl"])]:
            for by in ["tom", "olga", "carl"]:
                for call, state in [(self.orders.grant, "ready"), (self.orders.reject, "rejected")]:
                    number = self.new_order(1, role)
                    if by in able:
                        self.answers(state, call, by, number)
                        self.assertEqual(self.state(number), state)
                    else:
                        self.fails(NotAllowed, call, by, number)

    def test_the_maker_may_not(self):
        for by in ["ted", "olga", "carl"]:
            number = self.new_order(1, "teller", by)
            self.fails(NotAllowed, self.orders.grant, by, number)
            self.fails(NotAllowed, self.orders.reject, by, number)

    def test_no_such_user(self):
        for state in STATES:
            number = self.order_in(state)
            self.fails(NotAllowed, self.orders.grant, "nobody", number)
            self.fails(NotAllowed, self.orders.reject, "nobody", number)

    def test_nobody_grants_twice(self):
        number = self.new_order(2)
        self.orders.grant("olga", number)
        self.fails(NotAllowed, self.orders.grant, "olga", number)
        self.answers("ready", self.orders.grant, "otto", number)
        self.fails(Refused, self.orders.grant, "otto", number)

    def test_who_granted_may_reject(self):
        number = self.new_order(2)
        self.orders.grant("olga", number)
        self.answers("rejected", self.orders.reject, "olga", number)
        self.answers((2, "officer", ["olga"], "rejected"), lambda: self.orders.order(number)[5:])

    def test_only_waiting_ones(self):
        for state in STATES[1:]:
            number = self.order_in(state)
            # Even those who may not decide on it are told first that it is not waiting.
            for by in ["olga", "carl", "ted", "tom"]:
                self.fails(Refused, self.orders.grant, by, number)
                self.fails(Refused, self.orders.reject, by, number)
            self.assertEqual(self.state(number), state)


class EndTest(OrdersCase):

    def test_withdraw(self):
        for state in ["waiting", "ready"]:
            number = self.order_in(state)
            for by in ["tom", "olga", "carl", "nobody", ""]:
                self.fails(NotAllowed, self.orders.withdraw, by, number)
            self.answers("withdrawn", self.orders.withdraw, "ted", number)
            self.assertEqual(self.state(number), "withdrawn")
        for state in STATES[2:]:
            number = self.order_in(state)
            self.fails(Refused, self.orders.withdraw, "ted", number)
            self.fails(NotAllowed, self.orders.withdraw, "carl", number)

    def test_withdraw_behind_grants(self):
        number = self.new_order(2)
        self.orders.grant("olga", number)
        self.answers("withdrawn", self.orders.withdraw, "ted", number)
        self.answers((2, "officer", ["olga"], "withdrawn"), lambda: self.orders.order(number)[5:])
        number = self.new_order(1)
        self.orders.grant("olga", number)
        self.answers("withdrawn", self.orders.withdraw, "ted", number)

    def test_complete_and_fail(self):
        for name, state in [("complete", "done"), ("fail", "failed")]:
            call = getattr(self.orders, name)
            number = self.order_in("ready")
            self.answers(state, call, number)
            self.assertEqual(self.state(number), state)
            number = self.new_order(1)
            self.fails(Refused, call, number)
            self.orders.grant("olga", number)
            self.answers(state, call, number)
            for other in ["waiting", "rejected", "withdrawn", "expired", "done", "failed"]:
                self.fails(Refused, call, self.order_in(other))

    def test_expire(self):
        waiting = self.new_order(1, until=50)
        ready = self.new_order(until=50)
        later = self.new_order(until=51)
        earlier = self.new_order(until=0)
        self.answers([], self.orders.expire, -5)
        self.answers([], self.orders.expire, 0)
        self.answers([earlier], self.orders.expire, 1)
        self.answers([], self.orders.expire, 50)
        self.assertEqual([self.state(number) for number in (waiting, ready, later)], ["waiting", "ready", "ready"])
        self.answers([waiting, ready], self.orders.expire, 51)
        self.assertEqual([self.state(number) for number in (waiting, ready, later)], ["expired", "expired", "ready"])
        self.answers([], self.orders.expire, 51)
        self.answers([later], self.orders.expire, 10 ** 12)
        self.answers([], self.orders.expire, 10 ** 12)

    def test_expire_leaves_what_has_ended(self):
        for state in ["rejected", "withdrawn", "done", "failed"]:
            number = self.order_in(state)
            self.answers([], self.orders.expire, LAST_DAY)
            self.assertEqual(self.state(number), state)


if __name__ == "__main__":
    unittest.main()
