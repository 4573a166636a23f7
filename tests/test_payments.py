"""[40] and [41]: payments to other banks, and what the letters of the clearing do."""

import itertools
import unittest

from corebank.amounts import LIMIT
from corebank.chart import CLEARING, NOSTRO, SUSPENSE, TRANSIT
from corebank.errors import BadValue, Damaged, Full, Missing, NotAllowed, Refused
from corebank.letters import read_letter, write_letter
from corebank.links import Receiver, Sender
from tests.helper import NO_NAMES, BankCase, picture_of_bank, picture_of_deposits

NO_KEYS = ["", "k" * 21, "a|b", "|", "a/b", "/", "/R", "k/"]
KEYS = ["k", "k" * 20, "R", "K 1", "~", "alpha"]
# Texts that are no numbers without leading zeros, or are no number from 1 on.
NO_NUMBERS = ["", "01", "007", "00", "+5", "-5", "5 ", " 5", "5.0", "x", "0x5", "5_0"]


class PaymentCase(BankCase):

    def found(self, day):
        BankCase.found(self, day)
        self.clearing = Sender(CLEARING, "alpha")
        self.end = Receiver(CLEARING, "alpha")

    def money(self):
        """All balances of the ledger."""
        return [self.balance(account) for account in range(1, self.bank.ledger.accounts() + 1)]

    def pays(self, amount=300, key="key"):
        """Pay from ann to account 7 of beta."""
        self.do("ted", "pay", self.ann, "beta", 7, amount, key)

    def letters(self):
        """The letters of saved deeds that the clearing did not take yet."""
        self.do("ted", "save")
        taken = [self.end.take(text) for text in self.bank.outbox()]
        return [letter for letter in taken if letter is not None]

    def text(self, kind, *fields):
        """The text of the next letter of the clearing."""
        return self.clearing.dispatch(kind, list(fields))

    def takes(self, kind, *fields):
        """The bank takes a letter, which is recorded."""
        text = self.text(kind, *fields)
        day, count = self.bank.day, len(self.bank.deeds())
        self.answers(True, self.bank.receive, text)
        self.assertEqual(self.bank.deeds()[count:], [(count + 1, day, "mail", "mail", [text], None)])
        self.answers(False, self.bank.receive, text)
        self.assertEqual(len(self.bank.deeds()), count + 1)

    def nothing_but_taken(self, kind, *fields):
        """The letter is taken and recorded, and changes nothing else."""
        before = picture_of_bank(self.bank)
        self.takes(kind, *fields)
        after = picture_of_bank(self.bank)
        # All but the image and the deeds.
        self.assertEqual(after[1:4] + after[5:], before[1:4] + before[5:], (kind, fields))

    def posts(self, cause, source, target, amount, kind, *fields):
        """The bank takes a letter that posts this entry on today's value day."""
        number = self.bank.ledger.entries() + 1
        self.takes(kind, *fields)
        self.assert_last_entry(number, self.bank.day, cause, [(source, amount), (target, -amount)])

    def state(self, key="key"):
        """The state of the outgoing payment with this key."""
        return [row[5] for row in self.bank.outgoing() if row[0] == key][0]

    def returning(self, full_key="beta/key", amount=50, account=99):
        """Let a payment come in for which there is no account."""
        self.takes("funds", full_key, "beta", str(amount), str(account))
        self.assertEqual(self.bank.incoming()[-1], (full_key, "beta", amount, account, "returning"))


class PayTest(PaymentCase):

    def test_pay(self):
        for place, key in enumerate(KEYS):
            number = self.bank.ledger.entries() + 1
            amount, there = place + 1, [1, 1000, 5, 7, 99, 8][place]
            self.deed_answers(key, "ted", "pay", self.ann, "beta", there, amount, key)
            self.assert_last_entry(number, 100, "out " + key, [(7, amount), (TRANSIT, -amount)])
            self.assertEqual(self.bank.outgoing()[place:], [(key, 7, "beta", there, amount, "made")])
            self.assertEqual(self.letters(),
                             [("pay", "alpha", CLEARING, place + 1, ["alpha/" + key, "beta", str(amount), str(there)])])
        self.answers(1000 - 21, self.own, self.ann)
        self.answers(-21, self.balance, TRANSIT)
        self.assertEqual([row[0] for row in self.bank.outgoing()], KEYS)
        self.answers([], self.bank.incoming)

    def test_own_account_number_there(self):
        for place, (bank, there) in enumerate([("beta", 7), ("clearing", 8), ("zeta", 1), ("a", 1000)]):
            self.deed_answers("k" + str(place), "ted", "pay", self.ann, bank, there, 250, "k" + str(place))
        self.answers(0, self.own, self.ann)

    def test_today_s_value_day(self):
        self.close_day()
        self.pays()
        self.assert_last_entry(3, 101, "out key", [(7, 300), (TRANSIT, -300)])

    def test_each_check(self):
        self.pays(1)
        frozen = self.do("ted", "start", "save", "carl")
        self.do("olga", "freeze", frozen)
        for key in NO_KEYS:
            self.fails(BadValue, "ted", "pay", self.ann, "beta", 7, 5, key)
        self.fails(Refused, "ted", "pay", self.ann, "beta", 7, 5, "key")
        for bank in NO_NAMES + ["alpha"]:
            self.fails(BadValue, "ted", "pay", self.ann, bank, 7, 5, "new")
        for there in [0, -1, 1001, 5000]:
            self.fails(BadValue, "ted", "pay", self.ann, "beta", there, 5, "new")
        for account in [0, 1, 3, 99, -1]:
            self.fails(Missing, "ted", "pay", account, "beta", 7, 5, "new")
        for amount in [0, -1, LIMIT + 1]:
            self.fails(BadValue, "ted", "pay", self.ann, "beta", 7, amount, "new")
        self.fails(Refused, "ted", "pay", self.ann, "beta", 7, 1000, "new")
        self.fails(Refused, "ted", "pay", frozen, "beta", 7, 1, "new")
        self.deed_answers("new", "ted", "pay", self.ann, "beta", 7, 999, "new")

    def test_two_wrong_things(self):
        self.pays(1)
        # Each is (how a right payment is changed, the error), in the order in which they are checked.
        wrong = [({"key": ""}, BadValue), ({"key": "a/b"}, BadValue), ({"key": "key"}, Refused), ({"bank": ""}, BadValue),
                 ({"bank": "alpha"}, BadValue), ({"there": 0}, BadValue), ({"there": 1001}, BadValue), ({"account": 99}, Missing),
                 ({"amount": 0}, BadValue), ({"amount": 1000}, Refused)]
        for (one, error), (two, _) in itertools.combinations(wrong, 2):
            if one.keys() != two.keys():
                told = {"account": 7, "bank": "beta", "there": 7, "amount": 5, "key": "new", **two, **one}
                self.fails(error, "ted", "pay", told["account"], told["bank"], told["there"], told["amount"], told["key"])
        self.fails(Refused, "ted", "pay", 99, "", 0, 0, "key")
        self.fails(NotAllowed, "stranger", "pay", 99, "", 0, 0, "")

    def test_same_key_in_each_state(self):
        self.pays(1, "settled")
        self.pays(1, "returned")
        self.pays(1, "made")
        self.takes("settled", "alpha/settled")
        self.takes("funds", "alpha/returned", "alpha", "1", "0")
        for key in ["settled", "returned", "made"]:
            self.assertEqual(self.state(key), key)
            self.fails(Refused, "ted", "pay", self.ann, "beta", 7, 1, key)

    def test_a_key_that_came_in_is_free(self):
        self.takes("funds", "beta/key", "beta", "50", "7")
        self.deed_answers("key", "ted", "pay", self.ann, "beta", 7, 5, "key")

    def test_lists_are_not_kept(self):
        self.pays()
        self.takes("funds", "beta/key", "beta", "50", "7")
        for handed_out in [self.bank.outgoing(), self.bank.incoming(), self.bank.outbox(), self.bank.pending()]:
            before = picture_of_bank(self.bank)
            handed_out.append("x")
            handed_out.clear()
            self.assertEqual(picture_of_bank(self.bank), before)

    def test_full_ledger(self):
        self.fill_ledger(1999)
        self.pays(1)
        self.fails(Full, "ted", "pay", self.ann, "beta", 7, 5, "new")
        self.fails(BadValue, "ted", "pay", self.ann, "beta", 7, 5, "")


class TakingTest(PaymentCase):

    def test_same_again_and_too_early(self):
        one, two, three = [self.text("other", str(number)) for number in range(3)]
        for text in [two, three]:
            before = picture_of_bank(self.bank)
            self.answers(False, self.bank.receive, text)
            self.assertEqual(picture_of_bank(self.bank), before)
        self.answers(True, self.bank.receive, one)
        for text in [one, three]:
            before = picture_of_bank(self.bank)
            self.answers(False, self.bank.receive, text)
            self.assertEqual(picture_of_bank(self.bank), before)
        self.answers(True, self.bank.receive, two)
        self.answers(True, self.bank.receive, three)
        self.assertEqual([deed[4] for deed in self.bank.deeds()[-3:]], [[one], [two], [three]])

    def test_wrong_texts(self):
        text = self.text("funds", "beta/key", "beta", "50", "7")
        for wrong in ["", "x", text[:-1], text + "1", text.replace("50", "51"), text.replace("beta", "BETA")]:
            self.unchanged(Damaged, self.bank.receive, wrong)
        for sender, receiver in [("beta", "alpha"), (CLEARING, "beta"), ("alpha", CLEARING), ("alpha", "alpha")]:
            for kind in ["funds", "ack"]:
                wrong = write_letter((kind, sender, receiver, 1, ["beta/key", "beta", "50", "7"]))
                self.unchanged(Refused, self.bank.receive, wrong)
        for number in [0, 1, 2]:
            self.unchanged(Refused, self.bank.receive, write_letter(("ack", CLEARING, "alpha", number, [])))
        self.answers(True, self.bank.receive, text)

    def test_in_the_middle_of_a_closing(self):
        text = self.text("funds", "beta/key", "beta", "50", "7")
        self.do("boss", "close")
        for left in [3, 2, 1, 0]:
            for wrong in [text, "", write_letter(("ack", CLEARING, "alpha", 0, []))]:
                self.unchanged(Refused, self.bank.receive, wrong)
            self.do("ted", "work", 1)
        self.assertEqual((left, self.bank.day), (0, 101))
        number = self.bank.ledger.entries() + 1
        self.answers(True, self.bank.receive, text)
        self.assert_last_entry(number, 101, "in beta/key", [(NOSTRO, 50), (7, -50)])
        self.assertEqual(self.bank.deeds()[-1][1], 101)

    def test_3000_deeds(self):
        text, late = self.text("other"), self.text("other")
        self.fill_deeds(2999)
        self.answers(True, self.bank.receive, text)
        for wrong in [text, late, "", write_letter(("ack", CLEARING, "alpha", 0, []))]:
            self.unchanged(Full, self.bank.receive, wrong)

    def test_2000_entries(self):
        text, late = self.text("funds", "beta/key", "beta", "50", "7"), self.text("other")
        self.fill_ledger(1999)
        self.answers(True, self.bank.receive, text)
        self.answers(2000, self.bank.ledger.entries)
        for wrong in [text, late, "", write_letter(("ack", CLEARING, "alpha", 0, []))]:
            self.unchanged(Full, self.bank.receive, wrong)

    def test_other_letters(self):
        self.pays()
        self.returning()
        for fields in [[], ["alpha/key"], ["beta/key/R"], ["alpha/key", "beta", "300", "0"], ["gamma/k", "gamma", "5", "7"]]:
            for kind in ["pay", "other", "fund", "settle", "settleds", "back", "acks"]:
                self.nothing_but_taken(kind, *fields)


class SettledTest(PaymentCase):

    def test_payment_made(self):
        self.pays()
        self.close_day()
        self.posts("settled key", TRANSIT, NOSTRO, 300, "settled", "alpha/key")
        self.assertEqual(self.bank.outgoing(), [("key", 7, "beta", 7, 300, "settled")])
        self.assertEqual([self.balance(account) for account in (TRANSIT, NOSTRO)], [0, -300])

    def test_only_once(self):
        self.pays()
        self.takes("settled", "alpha/key")
        self.nothing_but_taken("settled", "alpha/key")

    def test_returned_before(self):
        self.pays()
        self.takes("funds", "alpha/key", "alpha", "300", "0")
        self.nothing_but_taken("settled", "alpha/key")

    def test_conditions_missed(self):
        self.pays()
        self.pays(1, "R")
        for fields in [[], ["alpha/key", ""], ["alpha/key", "alpha/key"], [""], ["key"], ["alpha/"], ["beta/key"], ["alpha/ke"],
                       ["alpha/key2"], ["alpha/key/R"], ["alpha/key/"], ["/key"], ["alpha//key"], ["ALPHA/key"], ["alpha"],
                       ["alpha/key", "beta", "300", "0"], [" alpha/key"], ["alpha/R/R"]]:
            self.nothing_but_taken("settled", *fields)
        self.posts("settled R", TRANSIT, NOSTRO, 1, "settled", "alpha/R")
        self.assertEqual((self.state("key"), self.state("R")), ("made", "settled"))

    def test_each_payment_alone(self):
        for key in KEYS:
            self.pays(5, key)
        for place, key in enumerate(KEYS):
            self.posts("settled " + key, TRANSIT, NOSTRO, 5, "settled", "alpha/" + key)
            states = [row[5] for row in self.bank.outgoing()]
            self.assertEqual(states, ["settled"] * (place + 1) + ["made"] * (len(KEYS) - place - 1))

    def test_return(self):
        self.returning()
        self.posts("settled beta/key/R", TRANSIT, NOSTRO, 50, "settled", "beta/key/R")
        self.assertEqual(self.bank.incoming(), [("beta/key", "beta", 50, 99, "returned")])
        self.assertEqual([self.balance(account) for account in (TRANSIT, NOSTRO)], [0, 0])
        self.nothing_but_taken("settled", "beta/key/R")

    def test_return_conditions_missed(self):
        self.returning()
        self.takes("funds", "beta/booked", "beta", "50", "7")
        for fields in [[], ["beta/key"], ["beta/key/R", ""], ["beta/key/r"], ["beta/key/"], ["beta/key/R/R"], ["beta/keyR"],
                       ["beta/key /R"], ["beta/booked/R"], ["beta/booked"], ["gamma/key/R"], ["key/R"], ["/R"], ["alpha/key/R"],
                       ["beta/other/R"]]:
            self.nothing_but_taken("settled", *fields)
        self.assertEqual([row[4] for row in self.bank.incoming()], ["returning", "booked"])

    def test_return_of_the_longest_keys(self):
        name, key = "a23456789012", "k" * 20
        self.takes("funds", name + "/" + key, name, "5", "99")
        full = name + "/" + key + "/R"
        self.posts("settled " + full, TRANSIT, NOSTRO, 5, "settled", full)

    def test_return_that_was_kept(self):
        self.returning()
        self.takes("funds", "beta/key/R", "alpha", "50", "0")
        self.nothing_but_taken("settled", "beta/key/R")


class IncomingTest(PaymentCase):

    def test_booked(self):
        self.close_day()
        for place, (key, amount, account) in enumerate([("key", 50, 7), ("k" * 20, 1, 8), ("R", LIMIT - 1050, 7), ("~ ~", 9, 8)]):
            full = "beta/" + key
            self.posts("in " + full, NOSTRO, account, amount, "funds", full, "beta", str(amount), str(account))
            self.assertEqual(self.bank.incoming()[place:], [(full, "beta", amount, account, "booked")])
        self.answers(LIMIT, self.own, self.ann)
        self.assertEqual(self.letters(), [])
        self.answers([], self.bank.outgoing)

    def test_other_banks_of_other_names(self):
        for name in ["b", "a23456789012", "clearing", "alph", "alphaa", "mail"]:
            self.posts("in " + name + "/key", NOSTRO, 7, 5, "funds", name + "/key", name, "5", "7")

    def test_returning(self):
        frozen = self.do("ted", "start", "save", "carl")
        self.do("olga", "freeze", frozen)
        closed = self.do("ted", "start", "save", "carl")
        self.do("olga", "finish", closed)
        for place, (amount, account) in enumerate([(50, 99), (1, frozen), (2, closed), (LIMIT, 7), (LIMIT - 999, 7), (5, 1),
                                                   (5, 3), (5, 6), (5, 1000), (LIMIT, 1000)]):
            full = "beta/k" + str(place)
            self.posts("in " + full, NOSTRO, TRANSIT, amount, "funds", full, "beta", str(amount), str(account))
            self.assertEqual(self.bank.incoming()[place:], [(full, "beta", amount, account, "returning")])
            self.assertEqual(self.letters(), [("pay", "alpha", CLEARING, place + 1, [full + "/R", "beta", str(amount), "0"])])
        self.answers([], self.bank.outgoing)

    def test_just_room(self):
        self.posts("in beta/k", NOSTRO, 7, LIMIT - 1000, "funds", "beta/k", "beta", str(LIMIT - 1000), "7")
        self.posts("in beta/k2", NOSTRO, TRANSIT, 1, "funds", "beta/k2", "beta", "1", "7")

    def test_conditions_missed(self):
        good = ["beta/key", "beta", "50", "7"]
        wrong = [
            ["", "key", "beta", "beta/", "gamma/key", "beta/" + "k" * 21, "beta/key/R", "beta//key", "beta/key/", "/key", "Beta/key",
             "alpha/key", "beta /key", " beta/key"],
            ["", "gamma", "Beta", "alpha", "bet", "beta ", "beta/key"],
            ["0", str(LIMIT + 1), "9" * 40] + NO_NUMBERS,
            ["1001", "9" * 40, "0"] + NO_NUMBERS,
        ]
        for place in range(4):
            for word in wrong[place]:
                self.nothing_but_taken("funds", *(good[:place] + [word] + good[place + 1:]))
        for one, two in itertools.combinations(range(4), 2):
            fields = list(good)
            fields[one], fields[two] = wrong[one][0], wrong[two][0]
            self.nothing_but_taken("funds", *fields)
        for fields in [[], good[:1], good[:2], good[:3], good + [""], good + good]:
            self.nothing_but_taken("funds", *fields)
        self.answers([], self.bank.incoming)
        self.posts("in beta/key", NOSTRO, 7, 50, "funds", *good)

    def test_own_name(self):
        self.nothing_but_taken("funds", "alpha/key", "alpha", "50", "7")

    def test_payer_that_is_no_name(self):
        for name in NO_NAMES:
            if "|" not in name:
                self.nothing_but_taken("funds", name + "/key", name, "50", "7")

    def test_same_key_again(self):
        self.takes("funds", "beta/key", "beta", "50", "7")
        self.returning("beta/other")
        for key in ["beta/key", "beta/other"]:
            for amount, account in [("50", "7"), ("51", "8"), ("50", "99")]:
                self.nothing_but_taken("funds", key, "beta", amount, account)
        # The same key of another bank is another full key.
        self.posts("in gamma/key", NOSTRO, 7, 50, "funds", "gamma/key", "gamma", "50", "7")

    def test_key_of_an_own_payment(self):
        self.pays(5, "key")
        self.posts("in beta/key", NOSTRO, 7, 50, "funds", "beta/key", "beta", "50", "7")
        self.assertEqual(self.state(), "made")


class BackTest(PaymentCase):

    def test_refused(self):
        self.pays()
        self.close_day()
        self.posts("back key", TRANSIT, 7, 300, "funds", "alpha/key", "alpha", "300", "0")
        self.assertEqual(self.bank.outgoing(), [("key", 7, "beta", 7, 300, "returned")])
        self.answers(1000, self.own, self.ann)
        self.assertEqual([self.balance(account) for account in (TRANSIT, NOSTRO, SUSPENSE)], [0, 0, 0])
        self.answers([], self.bank.incoming)

    def test_returned(self):
        self.pays()
        self.takes("settled", "alpha/key")
        self.posts("back key", NOSTRO, 7, 300, "funds", "alpha/key/R", "beta", "300", "0")
        self.assertEqual(self.state(), "returned")
        self.assertEqual([self.balance(account) for account in (TRANSIT, NOSTRO, SUSPENSE)], [0, 0, 0])

    def test_each_key_in_each_state(self):
        for place, (suffix, state) in enumerate(itertools.product(["", "/R"], ["made", "settled"])):
            for key in ["k" + str(place), "R" * (place + 1), "R" * 4 + str(place)]:
                self.pays(5, key)
                if state == "settled":
                    self.takes("settled", "alpha/" + key)
                source = NOSTRO if state == "settled" else TRANSIT
                self.posts("back " + key, source, 7, 5, "funds", "alpha/" + key + suffix, "beta", "5", "0")
                self.nothing_but_taken("funds", "alpha/" + key + suffix, "beta", "5", "0")
                self.assertEqual(self.state(key), "returned")

    def test_payer_is_not_looked_at(self):
        for place, payer in enumerate(["", "alpha", "beta", "no name", "X", "clearing", "x" * 40]):
            key = "k" + str(place)
            self.pays(5, key)
            self.posts("back " + key, TRANSIT, 7, 5, "funds", "alpha/" + key, payer, "5", "0")

    def test_on_suspense(self):
        for place, state in enumerate(["made", "settled"]):
            for by, deed, undo in [("olga", "freeze", "thaw")]:
                key = "k" + str(place)
                self.pays(5, key)
                if state == "settled":
                    self.takes("settled", "alpha/" + key)
                self.do(by, deed, self.ann)
                source = NOSTRO if state == "settled" else TRANSIT
                self.posts("back " + key, source, SUSPENSE, 5, "funds", "alpha/" + key, "alpha", "5", "0")
                self.do(by, undo, self.ann)
                self.assertEqual(self.state(key), "returned")

    def test_on_suspense_without_room(self):
        self.pays(300)
        self.do("ted", "cashin", self.ann, LIMIT - 999, 100)
        self.posts("back key", TRANSIT, SUSPENSE, 300, "funds", "alpha/key", "alpha", "300", "0")

    def test_on_suspense_of_a_closed_account(self):
        self.pays(1000)
        self.do("olga", "finish", self.ann)
        self.posts("back key", TRANSIT, SUSPENSE, 1000, "funds", "alpha/key", "alpha", "1000", "0")
        self.answers(0, self.own, self.ann)

    def test_just_room(self):
        self.pays(300)
        self.do("ted", "cashin", self.ann, LIMIT - 1000, 100)
        self.posts("back key", TRANSIT, 7, 300, "funds", "alpha/key", "alpha", "300", "0")
        self.answers(LIMIT, self.own, self.ann)

    def test_conditions_missed(self):
        self.pays()
        self.pays(300, "two")
        self.takes("settled", "alpha/two")
        for key in ["alpha/key", "alpha/key/R", "alpha/two", "alpha/two/R"]:
            for amount in ["299", "301", "0", "3", "3000", "0300", "300 ", "+300", "", "-300", "3e2"]:
                self.nothing_but_taken("funds", key, "alpha", amount, "0")
            for account in ["00", "", "-0", "+0", " 0", "0 ", "7", "1", "1001"]:
                self.nothing_but_taken("funds", key, "alpha", "300", account)
            for fields in [[key], [key, "alpha"], [key, "alpha", "300"], [key, "alpha", "300", "0", ""]]:
                self.nothing_but_taken("funds", *fields)
        for key in ["", "key", "alpha/", "alpha/R", "beta/key", "alpha/ke", "alpha/key/r", "alpha/key/", "alpha/key/R/R", "alpha//key",
                    "Alpha/key", "alpha/keyR", "alpha", "/R", "alpha/key/RR", "alpha/three", "alpha/three/R"]:
            self.nothing_but_taken("funds", key, "alpha", "300", "0")
        self.assertEqual((self.state("key"), self.state("two")), ("made", "settled"))

    def test_only_once(self):
        self.pays()
        self.takes("funds", "alpha/key", "alpha", "300", "0")
        for key in ["alpha/key", "alpha/key/R"]:
            self.nothing_but_taken("funds", key, "alpha", "300", "0")
            self.nothing_but_taken("funds", key, "beta", "300", "0")

    def test_payment_whose_key_is_r(self):
        self.pays(5, "R")
        self.nothing_but_taken("settled", "alpha/R/R")
        self.posts("back R", TRANSIT, 7, 5, "funds", "alpha/R/R", "beta", "5", "0")


class KeptTest(PaymentCase):

    def test_kept(self):
        self.returning()
        self.close_day()
        self.posts("kept beta/key/R", TRANSIT, SUSPENSE, 50, "funds", "beta/key/R", "alpha", "50", "0")
        self.assertEqual(self.bank.incoming(), [("beta/key", "beta", 50, 99, "kept")])
        self.assertEqual([self.balance(account) for account in (TRANSIT, NOSTRO, SUSPENSE)], [0, 50, -50])
        self.nothing_but_taken("funds", "beta/key/R", "alpha", "50", "0")

    def test_payer_is_not_looked_at(self):
        for place, payer in enumerate(["", "alpha", "beta", "no name", "X", "clearing"]):
            full = "beta/k" + str(place)
            self.returning(full)
            self.posts("kept " + full + "/R", TRANSIT, SUSPENSE, 50, "funds", full + "/R", payer, "50", "0")

    def test_conditions_missed(self):
        self.returning()
        self.takes("funds", "beta/booked", "beta", "50", "7")
        self.returning("beta/back")
        self.takes("settled", "beta/back/R")
        for amount in ["49", "51", "0", "5", "500", "050", "+50", ""]:
            self.nothing_but_taken("funds", "beta/key/R", "alpha", amount, "0")
        for account in ["00", "", "-0", "1", "7", "99", "1001"]:
            self.nothing_but_taken("funds", "beta/key/R", "alpha", "50", account)
            self.nothing_but_taken("funds", "beta/key/R", "beta", "50", account)
        for key in ["beta/key", "beta/key/r", "beta/key/", "beta/key/R/R", "beta/booked/R", "beta/back/R", "gamma/key/R", "key/R", "/R",
                    "alpha/key/R", "beta/new/R", ""]:
            self.nothing_but_taken("funds", key, "alpha", "50", "0")
        self.assertEqual([row[4] for row in self.bank.incoming()], ["returning", "booked", "returned"])


class TotalTest(PaymentCase):

    def test_letters_do_not_change_the_total(self):
        """What the bank owes, less what stands for it, stays the same whatever letters come."""
        self.pays()
        self.pays(5, "two")
        self.bank.fund(1000)
        before = self.total()
        for kind, fields in [("settled", ["alpha/key"]), ("funds", ["alpha/key/R", "beta", "300", "0"]),
                             ("funds", ["alpha/two", "alpha", "5", "0"]), ("funds", ["beta/k", "beta", "9", "7"]),
                             ("funds", ["beta/l", "beta", "9", "99"]), ("settled", ["beta/l/R"]),
                             ("funds", ["beta/m", "beta", "9", "99"]), ("funds", ["beta/m/R", "alpha", "9", "0"])]:
            entries = self.bank.ledger.entries()
            self.takes(kind, *fields)
            self.answers(entries + 1, self.bank.ledger.entries)
            self.assertEqual(self.total(), before)
            self.assertEqual(sum(self.money()), 0)

    def total(self):
        """Counted as a system counts it for each bank."""
        owed = sum(self.own(account) for account in self.bank.deposits.numbers())
        return owed - sum(self.balance(account) for account in (1, NOSTRO, TRANSIT, SUSPENSE))

    def test_letters_read_back(self):
        self.pays()
        self.do("ted", "save")
        self.assertEqual(read_letter(self.bank.outbox()[0])[4], ["alpha/key", "beta", "300", "7"])
        before = picture_of_deposits(self.bank.deposits)
        self.nothing_but_taken("other")
        self.assertEqual(picture_of_deposits(self.bank.deposits), before)


if __name__ == "__main__":
    unittest.main()
