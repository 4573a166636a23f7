"""[43] and [44]: saved deeds, the outbox, acks, crashes, images and replays; and the bank's own fund of [45]."""

import random
import unittest

from corebank.amounts import LIMIT
from corebank.bank import Bank, replay
from corebank.chart import CAPITAL, CLEARING, NOSTRO
from corebank.days import day_of
from corebank.errors import BadDay, BadValue, BankError, Damaged, Full, Refused
from corebank.letters import read_letter, write_letter
from corebank.links import Sender
from tests.helper import FREE, TIERS, BankCase, picture_of_bank

APRIL_30 = day_of(2000, 4, 30)


class CrashCase(BankCase):

    def found(self, day):
        BankCase.found(self, day)
        self.clearing = Sender(CLEARING, "alpha")

    def pays(self, key):
        """Pay one unit, which makes a letter."""
        self.do("ted", "pay", self.ann, "beta", 7, 1, key)

    def takes(self, kind, *fields):
        """The bank takes the next letter of the clearing."""
        self.answers(True, self.bank.receive, self.clearing.dispatch(kind, list(fields)))

    def ack(self, number):
        """The text of an ack of the clearing."""
        return write_letter(("ack", CLEARING, "alpha", number, []))

    def acked_by_bank(self):
        """The number in the bank's own ack."""
        kind, sender, receiver, number, fields = read_letter(self.bank.ack())
        self.assertEqual((kind, sender, receiver, fields), ("ack", "alpha", CLEARING, []))
        return number

    def numbers_out(self, bank=None):
        """The numbers of the letters in the outbox."""
        return [read_letter(text)[3] for text in (bank or self.bank).outbox()]

    def mixed_steps(self):
        """Calls of every kind, one after the other, the last of which leave the bank in the middle of a closing."""
        return [
            lambda: self.do("boss", "rule", "transfer", [(0, 0, "teller"), (50, 1, "officer")]),
            lambda: self.takes("funds", "beta/k1", "beta", "9", "7"),
            lambda: self.pays("k1"),
            lambda: self.do("ted", "save"),
            lambda: self.do("ted", "transfer", self.ann, self.bob, 100, "t1"),
            lambda: self.takes("funds", "beta/k2", "beta", "9", "99"),
            lambda: self.do("olga", "freeze", self.bob),
            lambda: self.do("olga", "grant", 1),
            lambda: self.bank.fund(30),
            lambda: self.do("olga", "thaw", self.bob),
            lambda: self.do("ted", "transfer", self.ann, self.bob, 60, "t2"),
            lambda: self.takes("settled", "alpha/k1"),
            lambda: self.do("olga", "version", "save", 121, [(0, 1), (5, 2)], FREE),
            lambda: self.do("boss", "close"),
            lambda: self.do("ted", "work", 1),
            lambda: self.do("ted", "work", 2),
            lambda: self.do("ted", "work", 1000),
            lambda: self.do("ted", "save"),
            lambda: self.do("boss", "undo", 1, "wrong"),
            lambda: self.takes("funds", "alpha/k1/R", "beta", "1", "0"),
            lambda: self.do("olga", "reject", 2),
            lambda: self.takes("other"),
            lambda: self.do("olga", "limit", self.ann, 5),
            lambda: self.do("ted", "cashout", self.bob, 20, 100),
            lambda: self.pays("k2") if self.own(self.ann) > 0 else self.do("ted", "save"),
            lambda: self.do("boss", "hire", "mail", "chief"),
            lambda: self.do("mail", "save"),
            lambda: self.do("boss", "close"),
            lambda: self.do("mail", "work", 2),
        ]


class SavedTest(CrashCase):

    def test_save(self):
        self.answers(0, self.bank.saved)
        for number, by in [(9, "ted"), (10, "olga"), (11, "boss")]:
            self.deed_answers(number, by, "save")
            self.answers(number, self.bank.saved)
        self.do("ted", "cashin", self.ann, 5, 100)
        self.answers(11, self.bank.saved)
        self.deed_answers(13, "ted", "save")
        self.answers(13, self.bank.saved)

    def test_other_deeds_do_not_save(self):
        self.do("ted", "save")
        for step in self.mixed_steps()[:3]:
            step()
            self.answers(9, self.bank.saved)

    def test_receiving_does_not_save(self):
        self.takes("other")
        self.answers(0, self.bank.saved)


class FundTest(CrashCase):

    def test_fund(self):
        for number, (amount, deeds) in enumerate([(1, 9), (LIMIT, 10), (77, 11)], 3):
            self.answers(number, self.bank.fund, amount)
            self.assert_last_entry(number, 100, "fund", [(NOSTRO, amount), (CAPITAL, -amount)])
            self.assertEqual(self.bank.deeds()[-1], (deeds, 100, "mail", "fund", [amount], number))
            self.answers(deeds, self.bank.saved)

    def test_saves_letters_and_what_was_taken(self):
        self.pays("k")
        self.takes("other")
        self.assertEqual((self.numbers_out(), self.acked_by_bank()), ([], 0))
        self.bank.fund(5)
        self.assertEqual((self.numbers_out(), self.acked_by_bank()), ([1], 1))

    def test_value_day_is_today(self):
        self.close_day()
        self.bank.fund(5)
        self.assert_last_entry(3, 101, "fund", [(NOSTRO, 5), (CAPITAL, -5)])
        self.assertEqual(self.bank.deeds()[-1][1], 101)

    def test_wrong_amounts_come_first(self):
        for amount in [0, -1, LIMIT + 1]:
            self.unchanged(BadValue, self.bank.fund, amount)
        self.do("boss", "close")
        for amount in [0, -1, LIMIT + 1]:
            self.unchanged(BadValue, self.bank.fund, amount)
        self.unchanged(Refused, self.bank.fund, 5)

    def test_full(self):
        self.fill_ledger(1999)
        self.answers(2000, self.bank.fund, 5)
        self.unchanged(Full, self.bank.fund, 5)
        self.unchanged(BadValue, self.bank.fund, 0)
        self.do("boss", "close")
        self.unchanged(Refused, self.bank.fund, 5)
        self.found(100)
        self.fill_deeds(2999)
        self.assertEqual((self.bank.fund(5), self.bank.saved()), (3, 3000))
        self.unchanged(Full, self.bank.fund, 5)


class OutboxTest(CrashCase):

    def test_saved_letters_alone(self):
        self.pays("k1")
        self.answers([], self.bank.outbox)
        self.do("ted", "save")
        one = self.bank.outbox()
        self.assertEqual([read_letter(text) for text in one],
                         [("pay", "alpha", CLEARING, 1, ["alpha/k1", "beta", "1", "7"])])
        self.pays("k2")
        self.takes("funds", "beta/in", "beta", "4", "99")
        self.answers(one, self.bank.outbox)
        self.do("ted", "save")
        self.assertEqual([read_letter(text) for text in self.bank.outbox()], [
            ("pay", "alpha", CLEARING, 1, ["alpha/k1", "beta", "1", "7"]),
            ("pay", "alpha", CLEARING, 2, ["alpha/k2", "beta", "1", "7"]),
            ("pay", "alpha", CLEARING, 3, ["beta/in/R", "beta", "4", "0"]),
        ])
        self.assertEqual(self.bank.outbox()[:1], one)

    def test_outbox_in_the_middle_of_a_closing(self):
        self.pays("k1")
        self.do("ted", "save")
        self.do("boss", "close")
        self.assertEqual(self.numbers_out(), [1])
        self.answers(True, self.bank.take_ack, self.ack(1))
        self.assertEqual(self.numbers_out(), [])

    def test_ack_tells_saved_letters_alone(self):
        self.assertEqual(self.acked_by_bank(), 0)
        self.takes("other")
        self.takes("funds", "beta/in", "beta", "4", "7")
        self.assertEqual(self.acked_by_bank(), 0)
        self.do("ted", "save")
        self.assertEqual(self.acked_by_bank(), 2)
        self.takes("other")
        self.assertEqual(self.acked_by_bank(), 2)
        self.bank.fund(5)
        self.assertEqual(self.acked_by_bank(), 3)
        self.assertEqual(self.bank.ack(), write_letter(("ack", "alpha", CLEARING, 3, [])))


class TakeAckTest(CrashCase):

    def setUp(self):
        CrashCase.setUp(self)
        for number in range(1, 5):
            self.pays("k" + str(number))
        self.do("ted", "save")
        self.pays("k5")

    def test_drops(self):
        deeds = self.bank.deeds()
        for number, dropped, left in [(0, False, [1, 2, 3, 4]), (1, True, [2, 3, 4]), (1, False, [2, 3, 4]), (0, False, [2, 3, 4]),
                                      (3, True, [4]), (2, False, [4]), (3, False, [4]), (4, True, []), (4, False, [])]:
            self.answers(dropped, self.bank.take_ack, self.ack(number))
            self.assertEqual(self.numbers_out(), left)
        # It is no deed.
        self.assertEqual(self.bank.deeds(), deeds)
        self.do("ted", "save")
        self.assertEqual(self.numbers_out(), [5])
        self.answers(True, self.bank.take_ack, self.ack(5))

    def test_letters_that_are_not_saved(self):
        for number in [5, 6, 999999]:
            self.unchanged(Refused, self.bank.take_ack, self.ack(number))
        self.bank.take_ack(self.ack(4))
        for number in [5, 6, 999999]:
            self.unchanged(Refused, self.bank.take_ack, self.ack(number))

    def test_wrong_texts(self):
        text = self.ack(2)
        for wrong in ["", text[:-1], text + " ", text.replace("ack", "ACK"), text.replace("|2|", "|3|")]:
            self.unchanged(Damaged, self.bank.take_ack, wrong)
        for number in [0, 1, 2, 9]:
            for letter in [("acks", CLEARING, "alpha", number, []), ("pay", CLEARING, "alpha", number, []),
                           ("ack", CLEARING, "beta", number, []), ("ack", "beta", "alpha", number, []),
                           ("ack", "alpha", CLEARING, number, []), ("ack", "alpha", "alpha", number, []),
                           ("ack", CLEARING, "alpha", number, [""]), ("ack", CLEARING, "alpha", number, ["a", "b"])]:
                self.unchanged(Refused, self.bank.take_ack, write_letter(letter))

    def test_in_the_middle_of_a_closing(self):
        self.do("boss", "close")
        self.unchanged(Refused, self.bank.take_ack, self.ack(5))
        self.answers(False, self.bank.take_ack, self.ack(0))
        self.answers(True, self.bank.take_ack, self.ack(2))
        self.assertEqual(self.numbers_out(), [3, 4])
        self.assertEqual(len(self.bank.pending()), 4)

    def test_with_3000_deeds(self):
        self.fill_deeds()
        self.answers(True, self.bank.take_ack, self.ack(5))

    def test_without_letters(self):
        bank = Bank("alpha", "EUR", 100, "boss")
        self.answers(False, bank.take_ack, self.ack(0))
        self.raises(Refused, bank.take_ack, self.ack(1))


class CrashTest(CrashCase):

    def crashed(self):
        """Crash; check that the bank itself stays, and that the other one is what the saved deeds make."""
        before = picture_of_bank(self.bank)
        crashed = self.bank.crash()
        self.assertEqual(picture_of_bank(self.bank), before)
        self.assertIsNot(crashed, self.bank)
        saved = self.bank.deeds()[:self.bank.saved()]
        self.assertEqual(crashed.deeds(), saved)
        again = replay("alpha", "EUR", self.founded, "boss", saved)
        self.assertEqual(picture_of_bank(crashed), picture_of_bank(again))
        self.assertEqual(crashed.image()[6], 0)
        return crashed

    def test_nothing_saved(self):
        crashed = self.crashed()
        self.assertEqual(picture_of_bank(crashed), picture_of_bank(Bank("alpha", "EUR", 100, "boss")))
        self.assertEqual(crashed.orders.role_of("boss"), "chief")

    def test_as_the_bank_was_when_it_was_saved(self):
        for day in [100, APRIL_30]:
            self.found(day)
            last = picture_of_bank(Bank("alpha", "EUR", day, "boss"))
            for step in self.mixed_steps():
                saved = self.bank.saved()
                step()
                if self.bank.saved() != saved:
                    last = picture_of_bank(self.bank)
                self.assertEqual(picture_of_bank(self.crashed()), last)
            self.assertGreater(self.bank.day, day)

    def test_crash_after_another_day(self):
        self.do("ted", "save")
        self.close_day()
        self.close_day()
        self.assertEqual((self.bank.day, self.crashed().day), (102, 100))
        self.do("ted", "save")
        self.do("boss", "close")
        crashed = self.crashed()
        self.assertEqual((crashed.day, crashed.pending()), (102, []))

    def test_letters_are_in_the_outbox_again(self):
        for key in ["k1", "k2", "k3"]:
            self.pays(key)
        self.do("ted", "save")
        texts = self.bank.outbox()
        self.bank.take_ack(self.ack(2))
        self.pays("k4")
        crashed = self.crashed()
        self.assertEqual(crashed.outbox(), texts)
        self.assertEqual([row[0] for row in crashed.outgoing()], ["k1", "k2", "k3"])
        self.answers(True, crashed.take_ack, self.ack(3))
        self.raises(Refused, crashed.take_ack, self.ack(4))
        # What is paid now has the number that the lost letter had.
        crashed.do("ted", "pay", [self.ann, "beta", 7, 2, "k4"])
        crashed.do("ted", "save", [])
        self.assertEqual([read_letter(text)[3:] for text in crashed.outbox()], [(4, ["alpha/k4", "beta", "2", "7"])])

    def test_letters_are_taken_again(self):
        self.takes("funds", "beta/k1", "beta", "9", "7")
        self.do("ted", "save")
        text = self.clearing.dispatch("funds", ["beta/k2", "beta", "8", "7"])
        self.answers(True, self.bank.receive, text)
        crashed = self.crashed()
        self.assertEqual([row[0] for row in crashed.incoming()], ["beta/k1"])
        self.answers(True, crashed.receive, text)
        self.assertEqual([row[0] for row in crashed.incoming()], ["beta/k1", "beta/k2"])

    def test_crashed_bank_is_a_bank_of_its_own(self):
        self.do("ted", "save")
        crashed = self.crashed()
        before = picture_of_bank(self.bank)
        crashed.do("ted", "cashin", [self.ann, 5, 100])
        crashed.fund(5)
        self.assertEqual(picture_of_bank(self.bank), before)
        # A crash of a crashed bank falls back to the same founding.
        self.assertEqual(crashed.crash().image(), crashed.image())

    def test_crash_of_a_crashed_bank(self):
        self.do("ted", "save")
        crashed = self.bank.crash()
        crashed.do("boss", "close", [])
        crashed.do("ted", "work", [1000])
        self.assertEqual(crashed.crash().image(), self.crashed().image())


class ImageTest(CrashCase):

    def tuples_and_plain(self, thing):
        if isinstance(thing, tuple):
            for inner in thing:
                self.tuples_and_plain(inner)
        else:
            self.assertIn(type(thing), [int, str, type(None)])

    def twin(self):
        """Another bank on which the same was done."""
        return replay("alpha", "EUR", self.founded, "boss", self.bank.deeds())

    def test_kinds(self):
        for step in self.mixed_steps():
            step()
        self.assertIs(type(self.bank.image()), tuple)
        self.tuples_and_plain(self.bank.image())
        hash(self.bank.image())

    def test_equal_states(self):
        for step in self.mixed_steps():
            step()
            self.assertEqual(self.bank.image(), self.bank.image())
            self.assertEqual(self.twin().image(), self.bank.image())

    def test_each_deed_changes_it(self):
        seen = [self.bank.image()]
        for step in self.mixed_steps():
            step()
            self.assertNotIn(self.bank.image(), seen)
            seen.append(self.bank.image())

    def test_founding(self):
        founded = [Bank(*told).image() for told in [
            ("alpha", "EUR", 100, "boss"), ("beta", "EUR", 100, "boss"), ("alpha", "USD", 100, "boss"),
            ("alpha", "EUR", 101, "boss"), ("alpha", "EUR", 100, "chief"), ("boss", "EUR", 100, "alpha")]]
        for place, one in enumerate(founded):
            self.assertEqual([one == other for other in founded].count(True), 1, place)
        self.assertEqual(Bank("alpha", "EUR", 100, "boss").image(), founded[0])

    def test_arguments(self):
        images = []
        for rows in [[(0, 1, "officer")], [(0, 2, "officer")], [(0, 1, "officer"), (5, 1, "officer")]]:
            self.found(100)
            self.do("boss", "rule", "transfer", rows)
            images.append(self.bank.image())
        self.assertEqual(len(set(images)), 3)

    def test_acknowledged(self):
        self.pays("k1")
        self.pays("k2")
        self.do("ted", "save")
        other = self.twin()
        images = [self.bank.image()]
        for number in [1, 2]:
            self.bank.take_ack(self.ack(number))
            self.assertNotIn(self.bank.image(), images)
            images.append(self.bank.image())
        self.assertEqual(other.image(), images[0])
        other.take_ack(self.ack(2))
        self.assertEqual(other.image(), images[2])

    def test_letters_that_are_not_taken_do_not_count(self):
        before = self.bank.image()
        text = self.clearing.dispatch("other", [])
        self.answers(False, self.bank.receive, self.clearing.dispatch("other", []))
        self.assertEqual(self.bank.image(), before)
        self.bank.receive(text)
        self.assertNotEqual(self.bank.image(), before)

    def test_image_stays_as_it_is(self):
        before = self.bank.image()
        copy = replay("alpha", "EUR", 100, "boss", self.bank.deeds()).image()
        self.do("ted", "save")
        self.assertEqual(before, copy)


class ReplayTest(CrashCase):

    def setUp(self):
        CrashCase.setUp(self)
        for step in self.mixed_steps():
            step()
        self.told = self.bank.deeds()

    def replay(self, deeds, day=100, name="alpha", currency="EUR", chief="boss"):
        return replay(name, currency, day, chief, deeds)

    def refused(self, deeds):
        self.raises(Refused, self.replay, deeds)

    def test_all(self):
        before = picture_of_bank(self.bank)
        again = self.replay(self.told)
        self.assertEqual(picture_of_bank(again), before)
        self.assertEqual(self.told, self.bank.deeds())
        # The deeds that are handed in are not kept.
        self.told[3][4].append("x")
        self.told.clear()
        self.assertEqual(again.deeds(), self.bank.deeds())

    def test_but_that_nothing_is_acknowledged(self):
        self.answers(True, self.bank.take_ack, self.ack(1))
        again = self.replay(self.told)
        self.assertNotEqual(again.image(), self.bank.image())
        self.assertEqual(self.numbers_out(again)[0], 1)
        again.take_ack(self.ack(1))
        self.assertEqual(again.image(), self.bank.image())

    def test_a_beginning(self):
        self.assertEqual(self.replay([]).image(), Bank("alpha", "EUR", 100, "boss").image())
        self.start_again()
        for step in self.mixed_steps():
            step()
            beginning = self.told[:len(self.bank.deeds())]
            self.assertEqual(picture_of_bank(self.replay(beginning)), picture_of_bank(self.bank))

    def start_again(self):
        """The bank as it was ahead of the steps."""
        CrashCase.setUp(self)

    def test_changed_numbers_days_and_answers(self):
        for place in range(len(self.told)):
            number, day, by, deed, arguments, answer = self.told[place]
            for wrong in [
                (number + 1, day, by, deed, arguments, answer), (number - 1, day, by, deed, arguments, answer),
                (0, day, by, deed, arguments, answer), (number, day + 1, by, deed, arguments, answer),
                (number, day - 1, by, deed, arguments, answer), (number, day, by, deed, arguments, "other"),
                (number, day, by, deed, arguments, 77), (number, day, by, deed, arguments, None if answer is not None else 0),
            ]:
                self.refused(self.told[:place] + [wrong] + self.told[place + 1:])
                self.refused(self.told[:place] + [wrong])

    def test_left_out_and_doubled(self):
        for place in range(len(self.told) - 1):
            self.refused(self.told[:place] + self.told[place + 1:])
            self.refused(self.told[:place + 1] + self.told[place:])
        self.refused(self.told + self.told[-1:])

    def test_cannot_be_done(self):
        def deed(by, name, arguments, answer=None):
            return [(len(self.told) + 1, self.bank.day, by, name, arguments, answer)]
        self.do("mail", "work", 1000)
        self.told = self.bank.deeds()
        self.assertEqual(len(self.replay(self.told + deed("ted", "save", [], len(self.told) + 1)).deeds()), len(self.told) + 1)
        for more in [
            deed("ted", "cashin", [self.ann, 0, 100]), deed("ted", "cashin", [self.ann, 5, 9999]), deed("ted", "nothing", []),
            deed("stranger", "save", [], len(self.told) + 1), deed("ted", "save", [1], len(self.told) + 1),
            deed("boss", "hire", ["ted", "teller"]), deed("ted", "work", [5]), deed("mail", "fund", [0]), deed("mail", "fund", []),
            deed("mail", "fund", [5, 5]), deed("mail", "mail", [""]), deed("mail", "mail", []), deed("boss", "mail", ["x"]),
            deed("boss", "fund", [5], self.bank.ledger.entries() + 1),
        ]:
            self.refused(self.told + more)
        # A letter that is not taken: one that was taken before, and one that comes too early.
        old = [row[4] for row in self.told if row[3] == "mail"][0]
        self.refused(self.told + deed("mail", "mail", old))
        self.clearing.dispatch("other", [])
        early = self.clearing.dispatch("other", [])
        self.refused(self.told + deed("mail", "mail", [early]))
        self.refused(self.told + deed("mail", "mail", [early], False))

    def test_other_founding(self):
        self.refused_but(self.told, day=99)
        self.refused_but(self.told, day=101)
        self.refused_but(self.told, chief="other")
        # The letters are for another bank.
        self.refused_but(self.told, name="gamma")

    def refused_but(self, deeds, **other):
        with self.assertRaises(BankError) as caught:
            self.replay(deeds, **other)
        self.assertIs(type(caught.exception), Refused)

    def test_wrong_founding(self):
        for told, error in [(("clearing", "EUR", 100, "boss"), BadValue), (("", "EUR", 100, "boss"), BadValue),
                            (("alpha", "eur", 100, "boss"), BadValue), (("alpha", "EUR", -1, "boss"), BadDay),
                            (("alpha", "EUR", 36525, ""), BadDay), (("alpha", "EUR", 100, ""), BadValue)]:
            for deeds in [[], self.told, [(5, 100, "boss", "save", [], 1)]]:
                self.raises(error, replay, *told, deeds)

    def test_deeds_of_a_user_called_mail(self):
        # This user may do deeds of the table, and none that only letters and funds are.
        self.assertIn("mail", [row[2] for row in self.told if row[3] == "work"])
        self.assertEqual(self.replay(self.told).image(), self.bank.image())

    def test_3000_deeds(self):
        self.found(100)
        self.fill_deeds()
        self.assertEqual(self.replay(self.bank.deeds()).image(), self.bank.image())
        self.refused(self.bank.deeds() + [(3001, 100, "ted", "save", [], 3001)])


class RandomDeedsTest(CrashCase):
    """Long rows of random deeds: what raises changes nothing, what was saved survives, what was done can be done again."""

    def random_deed(self, rng):
        """A user, a deed and its arguments; many of them cannot be done."""
        account = rng.choice([7, 8, 9, 10, 11, 3])
        amount = rng.choice([1, 5, 40, 60, 200, 0])
        number = rng.randint(0, 12)
        day = self.bank.day
        return rng.choice([
            ("boss", "rule", ["transfer", [(0, 0, "teller"), (rng.choice([10, 50, 100]), 1, "officer")]]),
            ("olga", "product", [rng.choice(["save", "loan", "gold"]), rng.choice(["up", "even"])]),
            ("olga", "version", [rng.choice(["save", "loan"]), day + rng.randint(0, 2), TIERS, TIERS]),
            ("ted", "start", [rng.choice(["save", "loan"]), "carl"]), ("olga", "limit", [account, amount]),
            ("olga", "freeze", [account]), ("olga", "thaw", [account]), ("olga", "finish", [account]),
            ("ted", "cashin", [account, amount, day - rng.randint(0, 3)]), ("ted", "cashout", [account, amount, day]),
            ("ted", "cashin", [account, amount, day]), ("ted", "cashin", [account, 200, day]),
            ("ted", "transfer", [account, rng.choice([7, 8, 9]), amount, "t" + str(number)]),
            ("ted", "transfer", [account, rng.choice([7, 8, 9]), amount, "u" + str(rng.randint(0, 99))]),
            ("olga", "grant", [number]), ("olga", "reject", [number]), ("ted", "withdraw", [number]),
            ("ted", "pay", [account, "beta", 7, amount, "p" + str(rng.randint(0, 30))]), ("boss", "undo", [number, "cash"]),
            ("ted", "save", []), ("boss", "close", []), ("ted", "work", [rng.choice([1, 3, 9])]), ("ted", "work", [9]),
        ])

    def random_letter(self, rng):
        """A letter of the clearing that may fit what the bank has sent and taken."""
        made = "alpha/p" + str(rng.randint(0, 30))
        came = "beta/" + str(rng.randint(0, 9))
        amount = str(rng.choice([1, 5, 40, 60, 200]))
        return rng.choice([
            ("settled", [made]), ("settled", [made]), ("settled", [came + "/R"]), ("funds", [made, "alpha", amount, "0"]),
            ("funds", [made + "/R", "beta", amount, "0"]), ("funds", [came, "beta", amount, str(rng.randint(5, 12))]),
            ("funds", [came + "/R", "alpha", amount, "0"]), ("other", []),
        ])

    def step(self, rng):
        """Do something; what raises changes nothing."""
        before = picture_of_bank(self.bank)
        closing = len(self.bank.pending()) > 0
        try:
            if closing and rng.random() < 0.7:
                self.bank.do("ted", "work", [rng.choice([1, 2, 9])])
            elif rng.random() < 0.2:
                kind, fields = self.random_letter(rng)
                self.bank.receive(write_letter((kind, CLEARING, "alpha", self.received + 1, fields)))
                self.received += 1
            elif rng.random() < 0.02:
                self.bank.fund(rng.randint(0, 9))
            else:
                self.bank.do(*self.random_deed(rng))
        except BankError:
            self.assertEqual(picture_of_bank(self.bank), before)

    def test_random_deeds(self):
        for seed in range(6):
            rng = random.Random(seed)
            self.found(APRIL_30 - 2)
            self.received = 0
            for count in range(400):
                self.step(rng)
                if count % 20 == 0:
                    self.check_bank()
            self.assertGreater(self.bank.day, self.founded + 2)

    def check_bank(self):
        ledger = self.bank.ledger
        self.assertEqual(sum(ledger.sums("EUR", None, None)), 0)
        again = replay("alpha", "EUR", self.founded, "boss", self.bank.deeds())
        self.assertEqual(picture_of_bank(again), picture_of_bank(self.bank))
        saved = replay("alpha", "EUR", self.founded, "boss", self.bank.deeds()[:self.bank.saved()])
        self.assertEqual(picture_of_bank(self.bank.crash()), picture_of_bank(saved))
        made = sum(row[4] for row in self.bank.outgoing() if row[5] == "made")
        going = sum(row[2] for row in self.bank.incoming() if row[4] == "returning")
        self.assertEqual(self.balance(3), -made - going)
        states = [self.bank.orders.order(number)[8] for number in range(1, self.count_orders() + 1)]
        self.assertNotIn("ready", states)
        held = sum(self.bank.orders.order(number)[2] for number, state in enumerate(states, 1) if state == "waiting")
        if len(self.bank.pending()) == 0:
            self.assertEqual(sum(self.bank.deposits.held(account) for account in self.bank.deposits.numbers()), held)

    def count_orders(self):
        count = 0
        while True:
            try:
                self.bank.orders.order(count + 1)
            except BankError:
                return count
            count += 1


if __name__ == "__main__":
    unittest.main()
