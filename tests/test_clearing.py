"""[35] and [36]: members, payments that wait, and which of them are settled."""

import itertools
import random
import unittest

from corebank.amounts import LIMIT
from corebank.clearing import Clearing
from corebank.errors import BadValue, Full, Missing, Refused
from tests.helper import NO_NAMES, Case

STRANGERS = ["", "stranger", "A", "a ", "alph", "a" * 30]


def picture(clearing):
    """All that a clearing tells."""
    members = clearing.members()
    return [(name, clearing.balance_of(name), clearing.floor_of(name)) for name in members], list(clearing.queue())


class ClearingCase(Case):

    def setUp(self):
        self.clearing = Clearing()
        self.submitted = 0

    def fails(self, error, function, *arguments):
        """The call raises the error and changes nothing."""
        before = picture(self.clearing)
        self.raises(error, function, *arguments)
        self.assertEqual(picture(self.clearing), before, arguments)

    def add(self, **balances):
        """Add members with floor 0 and these balances."""
        for name, units in balances.items():
            self.clearing.add_member(name, 0)
            self.clearing.fund(name, units)

    def pay(self, *payments):
        """Submit payments with the keys k1, k2 .. and return them as queue lists them."""
        told = []
        for payer, payee, amount in payments:
            self.submitted += 1
            key = "k" + str(self.submitted)
            self.answers(None, self.clearing.submit, key, payer, payee, amount)
            told.append((key, payer, payee, amount))
        return told

    def balances(self):
        return {name: self.clearing.balance_of(name) for name in self.clearing.members()}


class MembersTest(ClearingCase):

    def test_at_first(self):
        self.answers([], self.clearing.members)
        self.answers([], self.clearing.queue)
        self.answers([], self.clearing.settle)

    def test_members_in_order(self):
        names = ["zeta", "a", "clearing", "m1", "b", "abcdefghijkl"]
        floors = [0, -1000000000, -1, -5, 0, -999999999]
        for place, (name, floor) in enumerate(zip(names, floors)):
            self.answers(None, self.clearing.add_member, name, floor)
            self.answers(names[:place + 1], self.clearing.members)
            self.answers(0, self.clearing.balance_of, name)
            self.answers(floor, self.clearing.floor_of, name)
        self.fails(Full, self.clearing.add_member, "seventh", 0)
        self.fails(Refused, self.clearing.add_member, "b", 0)
        self.fails(BadValue, self.clearing.add_member, "seventh", 1)
        self.fails(BadValue, self.clearing.add_member, "", 0)

    def test_wrong_members(self):
        self.clearing.add_member("alpha", -10)
        for name in NO_NAMES:
            for floor in [0, -5, 1, -LIMIT - 1]:
                self.fails(BadValue, self.clearing.add_member, name, floor)
        for floor in [1, 2, LIMIT, -LIMIT - 1, -2 * LIMIT]:
            self.fails(BadValue, self.clearing.add_member, "beta", floor)
            self.fails(BadValue, self.clearing.add_member, "alpha", floor)
        for floor in [0, -10, -LIMIT]:
            self.fails(Refused, self.clearing.add_member, "alpha", floor)
        self.answers(-10, self.clearing.floor_of, "alpha")

    def test_strangers(self):
        self.add(alpha=5)
        for name in STRANGERS:
            self.fails(Missing, self.clearing.balance_of, name)
            self.fails(Missing, self.clearing.floor_of, name)
            for units in [0, 5, LIMIT, LIMIT + 1, -LIMIT - 1, -1]:
                self.fails(Missing, self.clearing.fund, name, units)

    def test_lists_are_not_kept(self):
        self.add(alpha=5, beta=0)
        self.pay(("alpha", "beta", 1), ("alpha", "beta", 5))
        for ask in [self.clearing.members, self.clearing.queue, self.clearing.settle, self.clearing.queue, self.clearing.settle]:
            handed_out = ask()
            before = picture(self.clearing)
            handed_out.append("x")
            handed_out.clear()
            self.assertEqual(picture(self.clearing), before)


class FundTest(ClearingCase):

    def test_fund(self):
        self.clearing.add_member("alpha", -100)
        for units, balance in [(50, 50), (0, 50), (-150, -100), (0, -100), (100, 0), (LIMIT, LIMIT), (LIMIT, 2 * LIMIT),
                               (-LIMIT, LIMIT), (-LIMIT, 0), (-100, -100)]:
            self.answers(None, self.clearing.fund, "alpha", units)
            self.answers(balance, self.clearing.balance_of, "alpha")
            self.answers(-100, self.clearing.floor_of, "alpha")

    def test_units_out_of_range(self):
        self.clearing.add_member("alpha", -LIMIT)
        self.clearing.fund("alpha", LIMIT)
        for units in [LIMIT + 1, -LIMIT - 1, 10 * LIMIT, -10 * LIMIT]:
            self.fails(BadValue, self.clearing.fund, "alpha", units)

    def test_below_the_floor(self):
        for floor in [0, -1, -100, -LIMIT + 1]:
            self.setUp()
            self.clearing.add_member("alpha", floor)
            self.fails(Refused, self.clearing.fund, "alpha", floor - 1)
            self.fails(Refused, self.clearing.fund, "alpha", -LIMIT)
            self.fails(BadValue, self.clearing.fund, "alpha", -LIMIT - 1)
            self.clearing.fund("alpha", floor)
            self.answers(floor, self.clearing.balance_of, "alpha")
            self.fails(Refused, self.clearing.fund, "alpha", -1)
            self.answers(None, self.clearing.fund, "alpha", 0)

    def test_only_one_member(self):
        self.add(alpha=10, beta=20)
        self.clearing.fund("beta", -5)
        self.assertEqual(self.balances(), {"alpha": 10, "beta": 15})


class SubmitTest(ClearingCase):

    def setUp(self):
        ClearingCase.setUp(self)
        self.add(alpha=100, beta=0, gamma=0)

    def test_queue(self):
        told = []
        for key, payer, payee, amount in [("z", "alpha", "beta", 1), ("a" * 40, "beta", "gamma", LIMIT),
                                          ("a|/ b", "gamma", "alpha", 7), ("~", "alpha", "gamma", 1000)]:
            self.answers(None, self.clearing.submit, key, payer, payee, amount)
            told.append((key, payer, payee, amount))
            self.answers(told, self.clearing.queue)
        # Nothing moves ahead of settle, and a payer need not have the money now.
        self.assertEqual(self.balances(), {"alpha": 100, "beta": 0, "gamma": 0})

    def test_each_wrong_thing(self):
        for key in ["", "a" * 41, "a" * 100]:
            self.fails(BadValue, self.clearing.submit, key, "alpha", "beta", 5)
        for name in STRANGERS:
            self.fails(Missing, self.clearing.submit, "k", name, "beta", 5)
            self.fails(Missing, self.clearing.submit, "k", "alpha", name, 5)
        self.fails(Refused, self.clearing.submit, "k", "alpha", "alpha", 5)
        for amount in [0, -1, LIMIT + 1, -LIMIT]:
            self.fails(BadValue, self.clearing.submit, "k", "alpha", "beta", amount)
        # None of these used up the key.
        self.answers(None, self.clearing.submit, "k", "alpha", "beta", 5)

    def test_same_key(self):
        self.pay(("alpha", "beta", 5), ("beta", "gamma", 50))
        for key in ["k1", "k2"]:
            for payment in [("alpha", "beta", 5), ("beta", "gamma", 50), ("gamma", "alpha", 9)]:
                self.fails(Refused, self.clearing.submit, key, *payment)
        self.assertEqual(len(self.clearing.settle()), 1)
        for key in ["k1", "k2"]:
            for payment in [("alpha", "beta", 5), ("beta", "gamma", 50), ("gamma", "alpha", 9)]:
                self.fails(Refused, self.clearing.submit, key, *payment)
        self.answers(None, self.clearing.submit, "k3", "alpha", "beta", 5)

    def test_two_wrong_things_at_once(self):
        self.pay(("alpha", "beta", 5))
        # In the order in which they are checked; each is (how a right submit is changed, the error).
        wrong = [({"key": ""}, BadValue), ({"key": "a" * 41}, BadValue), ({"payer": "stranger"}, Missing),
                 ({"payee": "nobody"}, Missing), ({"payee": "alpha"}, Refused), ({"amount": 0}, BadValue),
                 ({"amount": LIMIT + 1}, BadValue), ({"key": "k1"}, Refused)]
        for (one, error), (two, _) in itertools.combinations(wrong, 2):
            told = {"key": "k", "payer": "alpha", "payee": "beta", "amount": 5}
            told.update(two)
            told.update(one)
            if one.keys() != two.keys():
                self.fails(error, self.clearing.submit, told["key"], told["payer"], told["payee"], told["amount"])
        self.fails(Missing, self.clearing.submit, "k1", "stranger", "stranger", 0)
        self.fails(Refused, self.clearing.submit, "k1", "beta", "beta", 0)
        self.fails(BadValue, self.clearing.submit, "k1", "alpha", "beta", 0)


class SettleTest(ClearingCase):

    def settles(self, settled, balances):
        """Settle returns these payments; the rest waits, and the balances are these."""
        left = [payment for payment in self.clearing.queue() if payment not in settled]
        self.answers(settled, self.clearing.settle)
        self.answers(left, self.clearing.queue)
        self.assertEqual(self.balances(), balances)
        self.answers([], self.clearing.settle)
        self.answers(left, self.clearing.queue)
        self.assertEqual(self.balances(), balances)

    def test_one(self):
        self.add(alpha=100, beta=0)
        told = self.pay(("alpha", "beta", 100))
        self.settles(told, {"alpha": 0, "beta": 100})

    def test_not_enough(self):
        self.add(alpha=99, beta=0)
        self.pay(("alpha", "beta", 100))
        self.settles([], {"alpha": 99, "beta": 0})

    def test_ring(self):
        self.add(a=0, b=0, c=0)
        told = self.pay(("a", "b", 10), ("b", "c", 10), ("c", "a", 10))
        self.settles(told, {"a": 0, "b": 0, "c": 0})

    def test_broken_ring(self):
        self.add(a=0, b=0, c=0)
        self.pay(("a", "b", 10), ("b", "c", 11), ("c", "a", 10))
        self.settles([], {"a": 0, "b": 0, "c": 0})
        self.clearing.fund("b", 1)
        self.settles(self.clearing.queue(), {"a": 0, "b": 0, "c": 1})

    def test_money_that_comes_later_in_the_queue(self):
        self.add(a=0, b=0, c=50)
        told = self.pay(("a", "b", 50), ("c", "a", 50))
        self.settles(told, {"a": 0, "b": 50, "c": 0})

    def test_later_payment_waits_behind_an_earlier_one(self):
        self.add(a=30, b=0, c=0)
        self.pay(("a", "b", 40), ("a", "c", 10), ("a", "b", 1))
        self.settles([], {"a": 30, "b": 0, "c": 0})
        self.clearing.fund("a", 20)
        self.settles(self.clearing.queue()[:2], {"a": 0, "b": 40, "c": 10})
        self.clearing.fund("a", 1)
        self.settles(self.clearing.queue(), {"a": 0, "b": 41, "c": 10})

    def test_only_the_last_ones_are_put_back(self):
        self.add(a=30, b=0, c=0)
        told = self.pay(("a", "b", 10), ("b", "c", 10), ("a", "c", 15), ("a", "b", 6), ("b", "c", 1), ("c", "a", 4))
        # With the 4 of c, a can pay 31 and has 3 left; b then has 16 and pays 11.
        self.settles(told, {"a": 3, "b": 5, "c": 22})

    def test_putting_back_goes_on(self):
        self.add(a=5, b=0, c=0, d=0)
        told = self.pay(("a", "b", 5), ("b", "c", 5), ("a", "b", 1), ("b", "c", 1), ("c", "d", 5), ("c", "d", 1))
        self.settles([told[0], told[1], told[4]], {"a": 0, "b": 0, "c": 0, "d": 5})

    def test_floors_below_0(self):
        self.clearing.add_member("a", -20)
        self.clearing.add_member("b", 0)
        told = self.pay(("a", "b", 15), ("a", "b", 5), ("a", "b", 1))
        self.settles(told[:2], {"a": -20, "b": 20})
        told = self.pay(("b", "a", 20))
        self.assertEqual(len(told), 1)
        self.settles(self.clearing.queue(), {"a": -1, "b": 1})

    def test_order_of_the_result(self):
        self.add(a=10, b=10, c=10)
        told = self.pay(("c", "a", 1), ("a", "b", 1), ("b", "c", 99), ("c", "a", 1), ("b", "a", 1), ("a", "c", 2), ("c", "b", 3))
        self.settles([told[0], told[1], told[3], told[5], told[6]], {"a": 9, "b": 14, "c": 7})

    def test_against_all_choices(self):
        for seed in range(500):
            rng = random.Random(seed)
            self.setUp()
            names = ["a", "b", "c", "d"][:rng.randint(2, 4)]
            for name in names:
                self.clearing.add_member(name, -rng.choice([0, 0, 5, 10]))
                self.clearing.fund(name, rng.randint(0, 12))
            for _ in range(2):
                for _ in range(rng.randint(1, 7)):
                    payer, payee = rng.sample(names, 2)
                    key = "k" + str(rng.random())
                    self.clearing.submit(key, payer, payee, rng.randint(1, 15))
                settled, balances = self.best_choice()
                self.settles(settled, balances)

    def best_choice(self):
        """The choice that contains all others, found by trying all, and the balances behind it."""
        queue, before = self.clearing.queue(), self.balances()
        own = {name: [payment for payment in queue if payment[1] == name] for name in before}
        allowed = []
        for counts in itertools.product(*[range(len(own[name]) + 1) for name in before]):
            chosen = [payment for name, count in zip(before, counts) for payment in own[name][:count]]
            after = dict(before)
            for _, payer, payee, amount in chosen:
                after[payer] -= amount
                after[payee] += amount
            if all(after[name] >= self.clearing.floor_of(name) for name in before):
                allowed.append((counts, chosen, after))
        best = tuple(max(counts[place] for counts, _, _ in allowed) for place in range(len(before)))
        found = [(chosen, after) for counts, chosen, after in allowed if counts == best]
        self.assertEqual(len(found), 1)
        chosen, after = found[0]
        return [payment for payment in queue if payment in chosen], after

    def test_many_payments(self):
        self.add(a=1000, b=0)
        told = self.pay(*[("a", "b", 1) for _ in range(700)], *[("b", "a", 2) for _ in range(400)])
        # b has 700 to pay with, and what a pays is there at once.
        self.settles(told[:700] + told[700:1050], {"a": 1000, "b": 0})


if __name__ == "__main__":
    unittest.main()
