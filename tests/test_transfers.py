"""[39]: transfers, done at once or when they are granted."""

import itertools
import unittest

from corebank.amounts import LIMIT
from corebank.days import LAST_DAY
from corebank.errors import BadValue, Full, Missing, NotAllowed, Refused
from tests.helper import BankCase, picture_of_deposits


class TransferCase(BankCase):
    """With more users, and a rule: from 100 on two officers must grant."""

    def setUp(self):
        BankCase.setUp(self)
        self.rule()

    def rule(self):
        """Hire more users and set the rule."""
        for name, role in [("tom", "teller"), ("otto", "officer"), ("oda", "officer")]:
            self.do("boss", "hire", name, role)
        self.do("boss", "rule", "transfer", [(0, 0, "teller"), (100, 2, "officer")])

    def order(self, number):
        return self.bank.orders.order(number)

    def hold(self, number):
        return self.bank.deposits.hold_of(number)

    def waits(self, amount=400, key="key"):
        """Place a transfer from ann to bob that waits, and return its number."""
        number = self.do("ted", "transfer", self.ann, self.bob, amount, key)
        self.assertEqual(self.order_state(number), "waiting")
        return number


class AtOnceTest(TransferCase):

    def test_done(self):
        self.deed_answers(1, "ted", "transfer", self.ann, self.bob, 99, "key")
        self.assertEqual(self.order(1), ("ted", "transfer", 99, "key", 105, 0, None, [], "done"))
        self.assert_last_entry(3, 100, "transfer", [(7, 99), (8, -99)])
        self.assertEqual((self.own(self.ann), self.own(self.bob)), (901, 599))
        self.raises(Missing, self.bank.deposits.hold_of, 1)
        self.deed_answers(2, "boss", "transfer", self.bob, self.ann, 1, "k" * 20)
        self.assert_last_entry(4, 100, "transfer", [(8, 1), (7, -1)])

    def test_without_a_rule(self):
        self.found(self.DAY)
        self.deed_answers(1, "ted", "transfer", self.ann, self.bob, 1000, "key")
        self.assertEqual(self.order(1), ("ted", "transfer", 1000, "key", 105, 0, None, [], "done"))

    def test_value_day_is_today(self):
        self.close_day()
        self.do("ted", "transfer", self.ann, self.bob, 99, "key")
        self.assert_last_entry(3, 101, "transfer", [(7, 99), (8, -99)])
        self.assertEqual(self.order(1)[4], 106)

    def test_full_ledger(self):
        self.fill_ledger()
        before = picture_of_deposits(self.bank.deposits)
        self.deed_answers(1, "ted", "transfer", self.ann, self.bob, 99, "key")
        self.assertEqual(self.order_state(1), "failed")
        self.assertEqual(picture_of_deposits(self.bank.deposits), before)
        self.answers(2000, self.bank.ledger.entries)
        # The key is used up: the same order again is the failed one.
        self.deed_answers(1, "ted", "transfer", self.ann, self.bob, 99, "key")
        self.fails(Refused, "ted", "transfer", self.ann, self.bob, 98, "key")

    def test_bounds(self):
        rich = self.do("ted", "start", "save", "carl")
        self.do("ted", "cashin", rich, LIMIT - 1, 100)
        self.deed_answers(1, "ted", "transfer", self.ann, rich, 1, "k1")
        self.fails(Refused, "ted", "transfer", self.ann, rich, 1, "k2")
        self.deed_answers(2, "ted", "transfer", rich, self.ann, 1, "k2")


class ChecksTest(TransferCase):

    def test_each_check(self):
        frozen = self.do("ted", "start", "save", "carl")
        self.do("ted", "cashin", frozen, 1000, 100)
        self.do("olga", "freeze", frozen)
        for account in [0, -1, 1, 3, 6, 10, 999]:
            self.fails(Missing, "ted", "transfer", account, self.bob, 5, "key")
            self.fails(Missing, "ted", "transfer", self.ann, account, 5, "key")
        for amount in [0, -1, LIMIT + 1]:
            self.fails(BadValue, "ted", "transfer", self.ann, self.bob, amount, "key")
        self.fails(Refused, "ted", "transfer", self.ann, self.bob, 1001, "key")
        self.fails(Refused, "ted", "transfer", frozen, self.bob, 5, "key")
        self.fails(Refused, "ted", "transfer", self.ann, frozen, 5, "key")
        self.fails(Refused, "ted", "transfer", self.ann, self.ann, 5, "key")
        for key in ["", "k" * 21]:
            self.fails(BadValue, "ted", "transfer", self.ann, self.bob, 5, key)
        # None of these used up a number or a key.
        self.deed_answers(1, "ted", "transfer", self.ann, self.bob, 5, "key")

    def test_two_wrong_things(self):
        # Each is (how a right transfer is changed, the error), in the order in which they are checked.
        wrong = [({"source": 99}, Missing), ({"amount": 0}, BadValue), ({"amount": 1001}, Refused), ({"target": 98}, Missing),
                 ({"target": 7}, Refused), ({"key": ""}, BadValue), ({"key": "k" * 21}, BadValue)]
        for (one, error), (two, _) in itertools.combinations(wrong, 2):
            if one.keys() != two.keys():
                told = {"source": 7, "target": 8, "amount": 5, "key": "key", **two, **one}
                self.fails(error, "ted", "transfer", told["source"], told["target"], told["amount"], told["key"])
        self.fails(Missing, "ted", "transfer", 99, 99, 0, "")
        self.fails(NotAllowed, "stranger", "transfer", 99, 99, 0, "")

    def test_same_account_with_room_for_half(self):
        # The check of the credit comes ahead of that for the same account, and both refuse.
        rich = self.do("ted", "start", "save", "carl")
        self.do("ted", "cashin", rich, LIMIT, 100)
        self.fails(Refused, "ted", "transfer", rich, rich, 5, "key")

    def test_500_orders(self):
        for number in range(1, 501):
            self.do("ted", "transfer", self.ann, self.bob, 1, "k" + str(number))
        self.fails(Full, "ted", "transfer", self.ann, self.bob, 1, "key")
        self.fails(Full, "ted", "transfer", self.ann, self.bob, 300, "key")
        self.fails(BadValue, "ted", "transfer", self.ann, self.bob, 1, "")
        self.fails(Refused, "ted", "transfer", self.ann, self.ann, 1, "key")
        self.deed_answers(7, "ted", "transfer", self.ann, self.bob, 1, "k7")
        self.fails(Refused, "ted", "transfer", self.ann, self.bob, 2, "k7")

    def test_500_orders_that_all_hold(self):
        self.do("ted", "cashin", self.ann, 100000, 100)
        for number in range(1, 501):
            self.deed_answers(number, "ted", "transfer", self.ann, self.bob, 100, "k" + str(number))
            self.assertEqual(self.hold(number), (7, 100, 105, "held"))
        self.fails(Full, "ted", "transfer", self.ann, self.bob, 100, "key")


class SameKeyTest(TransferCase):

    def test_same_again(self):
        self.do("ted", "transfer", self.ann, self.bob, 99, "key")
        for source, target in [(7, 8), (8, 7), (99, 98), (7, 7), (0, 0), (1, 2)]:
            before = picture_of_deposits(self.bank.deposits)
            self.deed_answers(1, "ted", "transfer", source, target, 99, "key")
            self.assertEqual(picture_of_deposits(self.bank.deposits), before)
        self.answers(3, self.bank.ledger.entries)
        self.assertEqual(self.order(1), ("ted", "transfer", 99, "key", 105, 0, None, [], "done"))

    def test_same_again_in_each_state(self):
        for number, state in enumerate(["waiting", "rejected", "withdrawn", "done", "failed", "expired"], 1):
            key = "key" + state
            self.do("ted", "transfer", self.ann, self.bob, 100, key)
            if state == "rejected":
                self.do("olga", "reject", number)
            elif state == "withdrawn":
                self.do("ted", "withdraw", number)
            elif state == "done":
                self.do("olga", "grant", number)
                self.do("otto", "grant", number)
            elif state == "failed":
                self.do("olga", "freeze", self.bob)
                self.do("olga", "grant", number)
                self.do("otto", "grant", number)
                self.do("olga", "thaw", self.bob)
            elif state == "expired":
                for _ in range(6):
                    self.close_day()
            self.assertEqual(self.order_state(number), state)
            before = self.order(number), picture_of_deposits(self.bank.deposits), self.bank.ledger.entries()
            self.deed_answers(number, "ted", "transfer", self.ann, self.bob, 100, key)
            after = self.order(number), picture_of_deposits(self.bank.deposits), self.bank.ledger.entries()
            self.assertEqual(after, before)

    def test_other_maker_or_amount(self):
        self.do("ted", "transfer", self.ann, self.bob, 99, "key")
        for source, target in [(7, 8), (99, 98), (7, 7)]:
            self.fails(Refused, "ted", "transfer", source, target, 98, "key")
            self.fails(Refused, "tom", "transfer", source, target, 99, "key")
            self.fails(Refused, "boss", "transfer", source, target, 99, "key")
            self.fails(BadValue, "ted", "transfer", source, target, 0, "key")
            self.fails(BadValue, "tom", "transfer", source, target, LIMIT + 1, "key")

    def test_no_money_left_for_a_second_one(self):
        self.do("ted", "transfer", self.ann, self.bob, 99, "key")
        self.do("ted", "cashout", self.ann, 901, 100)
        self.do("olga", "finish", self.ann)
        self.deed_answers(1, "ted", "transfer", self.ann, self.bob, 99, "key")

    def test_later_day(self):
        self.waits()
        self.close_day()
        self.deed_answers(1, "ted", "transfer", self.ann, self.bob, 400, "key")
        self.assertEqual(self.order(1)[4], 105)
        self.raises(Missing, self.bank.deposits.hold_of, 2)


class WaitingTest(TransferCase):

    def test_held_while_waiting(self):
        self.deed_answers(1, "ted", "transfer", self.ann, self.bob, 400, "key")
        self.assertEqual(self.order(1), ("ted", "transfer", 400, "key", 105, 2, "officer", [], "waiting"))
        self.assertEqual(self.hold(1), (7, 400, 105, "held"))
        self.assertEqual((self.own(self.ann), self.bank.deposits.available(self.ann)), (1000, 600))
        self.answers(2, self.bank.ledger.entries)
        # What is held cannot be held again.
        self.fails(Refused, "ted", "transfer", self.ann, self.bob, 601, "key2")
        self.deed_answers(2, "ted", "transfer", self.ann, self.bob, 600, "key2")
        self.assertEqual(self.hold(2), (7, 600, 105, "held"))

    def test_granted(self):
        number = self.waits()
        self.deed_answers("waiting", "olga", "grant", number)
        self.assertEqual(self.hold(1)[3], "held")
        self.answers(2, self.bank.ledger.entries)
        self.close_day()
        self.deed_answers("done", "otto", "grant", number)
        self.assertEqual(self.order(number)[7:], (["olga", "otto"], "done"))
        self.assertEqual(self.hold(1), (7, 400, 105, "used"))
        self.assert_last_entry(3, 101, "transfer", [(7, 400), (8, -400)])
        self.answers(600, self.bank.deposits.available, self.ann)

    def test_granted_with_all_the_money(self):
        number = self.waits(1000)
        self.do("olga", "grant", number)
        # With the hold gone, all of it is available again.
        self.deed_answers("done", "boss", "grant", number)
        self.answers(0, self.own, self.ann)

    def test_who_may_grant(self):
        number = self.waits()
        for by in ["ted", "tom", "stranger"]:
            self.fails(NotAllowed, by, "grant", number)
            self.fails(NotAllowed, by, "reject", number)
        self.do("olga", "grant", number)
        self.fails(NotAllowed, "olga", "grant", number)
        other = self.do("otto", "transfer", self.ann, self.bob, 100, "own")
        self.fails(NotAllowed, "otto", "grant", other)
        self.fails(NotAllowed, "otto", "reject", other)
        self.do("boss", "rule", "transfer", [(0, 1, "chief")])
        third = self.do("ted", "transfer", self.ann, self.bob, 100, "third")
        self.fails(NotAllowed, "olga", "grant", third)
        self.fails(NotAllowed, "olga", "reject", third)
        self.deed_answers("done", "boss", "grant", third)
        # What was required when it was placed stays required.
        self.deed_answers("done", "oda", "grant", number)

    def test_no_such_order(self):
        self.waits()
        for number in [0, -1, 2, 99]:
            self.fails(Missing, "olga", "grant", number)
            self.fails(Missing, "olga", "reject", number)
            self.fails(Missing, "ted", "withdraw", number)

    def test_rejected(self):
        number = self.waits()
        self.do("olga", "grant", number)
        self.deed_answers("rejected", "olga", "reject", number)
        self.assertEqual(self.hold(1), (7, 400, 105, "released"))
        self.answers(1000, self.bank.deposits.available, self.ann)
        self.answers(2, self.bank.ledger.entries)
        for by, deed in [("otto", "grant"), ("otto", "reject"), ("ted", "withdraw")]:
            self.fails(Refused, by, deed, number)

    def test_withdrawn(self):
        number = self.waits()
        for by in ["tom", "olga", "boss"]:
            self.fails(NotAllowed, by, "withdraw", number)
        self.do("olga", "grant", number)
        self.deed_answers("withdrawn", "ted", "withdraw", number)
        self.assertEqual(self.hold(1), (7, 400, 105, "released"))
        for by, deed in [("otto", "grant"), ("otto", "reject"), ("ted", "withdraw")]:
            self.fails(Refused, by, deed, number)

    def test_done_ones(self):
        self.do("ted", "transfer", self.ann, self.bob, 99, "key")
        for by, deed in [("otto", "grant"), ("otto", "reject"), ("ted", "withdraw")]:
            self.fails(Refused, by, deed, 1)
        self.fails(NotAllowed, "tom", "withdraw", 1)

    def test_expired(self):
        number = self.waits()
        for day in range(100, 105):
            self.close_day()
            self.assertEqual((self.bank.day, self.order_state(number), self.hold(1)[3]), (day + 1, "waiting", "held"))
        self.do("olga", "grant", number)
        self.do("boss", "close")
        self.do("ted", "work", 1)
        self.assertEqual((self.order_state(number), self.hold(1)[3]), ("waiting", "lapsed"))
        self.do("ted", "work", 1)
        self.assertEqual((self.order_state(number), self.hold(1)[3]), ("expired", "lapsed"))
        self.do("ted", "work", 1000)
        self.answers(1000, self.bank.deposits.available, self.ann)
        for by, deed in [("otto", "grant"), ("otto", "reject"), ("ted", "withdraw")]:
            self.fails(Refused, by, deed, number)

    def test_granted_on_the_last_day(self):
        number = self.waits()
        for _ in range(5):
            self.close_day()
        self.do("olga", "grant", number)
        self.deed_answers("done", "otto", "grant", number)
        self.assertEqual(self.hold(1)[3], "used")
        self.close_day()
        self.assertEqual((self.order_state(number), self.hold(1)[3]), ("done", "used"))


class ExpiringTest(TransferCase):

    def test_hold_is_released(self):
        """In a closing holds lapse first; an order that expires by itself releases its hold."""
        for key in ["k1", "k2"]:
            self.waits(400, key)
        self.answers(None, self.bank.transfers.expire_orders, 105)
        self.assertEqual([self.hold(1)[3], self.hold(2)[3]], ["held", "held"])
        self.bank.deposits.consume(2)
        self.answers(None, self.bank.transfers.expire_orders, 106)
        self.assertEqual([self.order_state(1), self.order_state(2)], ["expired", "expired"])
        self.assertEqual([self.hold(1)[3], self.hold(2)[3]], ["released", "used"])


class FailingTest(TransferCase):

    def failed(self, number, entries):
        """The last grant lets the order fail: nothing is posted, and the hold is consumed."""
        self.deed_answers("failed", "otto", "grant", number)
        self.assertEqual(self.order_state(number), "failed")
        self.assertEqual(self.hold(number)[3], "used")
        self.answers(entries, self.bank.ledger.entries)
        for by, deed in [("oda", "grant"), ("oda", "reject"), ("ted", "withdraw")]:
            self.fails(Refused, by, deed, number)

    def granted_once(self, amount=400):
        number = self.waits(amount)
        self.do("olga", "grant", number)
        return number

    def test_less_money(self):
        number = self.granted_once()
        # An undone cash entry takes what is held.
        self.do("boss", "undo", 1, "wrong")
        self.failed(number, 3)
        self.answers(0, self.own, self.ann)

    def test_lower_limit(self):
        self.do("olga", "limit", self.ann, 10)
        number = self.granted_once(1010)
        self.do("olga", "limit", self.ann, 9)
        self.failed(number, 2)

    def test_frozen_source(self):
        number = self.granted_once()
        self.do("olga", "freeze", self.ann)
        self.failed(number, 2)
        self.do("olga", "thaw", self.ann)
        self.answers(1000, self.bank.deposits.available, self.ann)

    def test_frozen_target(self):
        number = self.granted_once()
        self.do("olga", "freeze", self.bob)
        self.failed(number, 2)

    def test_closed_target(self):
        number = self.granted_once()
        self.do("ted", "cashout", self.bob, 500, 100)
        self.do("olga", "finish", self.bob)
        self.failed(number, 3)

    def test_target_without_room(self):
        number = self.granted_once()
        self.do("ted", "cashin", self.bob, LIMIT - 899, 100)
        self.failed(number, 3)

    def test_target_with_just_room(self):
        number = self.granted_once()
        self.do("ted", "cashin", self.bob, LIMIT - 900, 100)
        self.deed_answers("done", "otto", "grant", number)
        self.answers(LIMIT, self.own, self.bob)

    def test_full_ledger(self):
        number = self.granted_once()
        self.fill_ledger()
        self.failed(number, 2000)

    def test_first_grant_does_not_carry_out(self):
        number = self.waits()
        self.do("olga", "freeze", self.ann)
        self.deed_answers("waiting", "olga", "grant", number)
        self.assertEqual(self.hold(1)[3], "held")
        self.do("olga", "thaw", self.ann)
        self.deed_answers("done", "otto", "grant", number)


class LastDaysTest(TransferCase):

    def test_until(self):
        for day, until in [(0, 5), (LAST_DAY - 6, LAST_DAY - 1), (LAST_DAY - 5, LAST_DAY), (LAST_DAY - 4, LAST_DAY),
                           (LAST_DAY - 1, LAST_DAY), (LAST_DAY, LAST_DAY)]:
            self.found(day)
            self.rule()
            waiting = self.waits()
            self.assertEqual(self.order(waiting)[4], until)
            self.assertEqual(self.hold(1), (7, 400, until, "held"))
            done = self.do("ted", "transfer", self.ann, self.bob, 5, "small")
            self.assertEqual((self.order(done)[4], self.order_state(done)), (until, "done"))
            self.do("olga", "grant", waiting)
            self.deed_answers("done", "otto", "grant", waiting)

    def test_still_waiting_on_the_last_day(self):
        self.found(LAST_DAY - 1)
        self.rule()
        number = self.waits()
        self.close_day()
        self.assertEqual((self.bank.day, self.order_state(number), self.hold(1)[3]), (LAST_DAY, "waiting", "held"))
        self.fails(Refused, "boss", "close")


class NeverReadyTest(TransferCase):

    def test_no_order_stays_ready(self):
        self.do("boss", "rule", "transfer", [(0, 0, "teller"), (50, 1, "officer"), (100, 2, "officer")])
        for place, amount in enumerate([10, 49, 50, 99, 100, 150]):
            number = self.do("ted", "transfer", self.ann, self.bob, amount, "k" + str(place))
            for by in ["olga", "otto", "oda"]:
                self.assertNotEqual(self.order_state(number), "ready")
                if self.order_state(number) == "waiting":
                    self.do(by, "grant", number)
            self.assertEqual(self.order_state(number), "done")


if __name__ == "__main__":
    unittest.main()
