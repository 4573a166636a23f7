"""[32] to [34]: the sending and the receiving ends of links."""

import random
import unittest

from corebank.errors import BadValue, Damaged, Refused
from corebank.letters import read_letter, write_letter
from corebank.links import Receiver, Sender
from tests.helper import NO_NAMES, Case

BAD_FIELDS = [[""] * 9, ["x" * 41], ["a|b"], ["ok", "|"]]


def picture(end):
    """All that an end tells."""
    if isinstance(end, Sender):
        return list(end.waiting()), end.sent(), end.acknowledged()
    return end.taken(), end.ack()


class LinkCase(Case):

    def setUp(self):
        self.sender = Sender("alpha", "beta")
        self.receiver = Receiver("beta", "alpha")

    def fails(self, error, end, function, *arguments):
        """The call raises the error and changes nothing."""
        before = picture(end)
        self.raises(error, function, *arguments)
        self.assertEqual(picture(end), before)


class SenderTest(LinkCase):

    def test_at_first(self):
        self.answers([], self.sender.waiting)
        self.answers(0, self.sender.sent)
        self.answers(0, self.sender.acknowledged)

    def test_numbers_from_1(self):
        texts = []
        for number in range(1, 13):
            fields = ["f" + str(number)] * (number % 9)
            text = write_letter(("kind" + str(number), "alpha", "beta", number, fields))
            self.answers(text, self.sender.dispatch, "kind" + str(number), fields)
            texts.append(text)
            self.answers(number, self.sender.sent)
            self.answers(texts, self.sender.waiting)
            self.answers(0, self.sender.acknowledged)

    def test_acknowledge(self):
        texts = [self.sender.dispatch("pay", [str(number)]) for number in range(1, 8)]
        for number, last in [(0, 0), (-1, 0), (2, 2), (2, 2), (1, 2), (0, 2), (-5, 2), (3, 3), (6, 6), (3, 6), (7, 7), (7, 7)]:
            self.answers(None, self.sender.acknowledge, number)
            self.answers(texts[last:], self.sender.waiting)
            self.answers(last, self.sender.acknowledged)
            self.answers(7, self.sender.sent)
        text = self.sender.dispatch("pay", [])
        self.assertEqual(read_letter(text)[3], 8)
        self.answers([text], self.sender.waiting)
        self.sender.acknowledge(8)
        self.answers([], self.sender.waiting)

    def test_acknowledge_more_than_was_sent(self):
        self.fails(Refused, self.sender, self.sender.acknowledge, 1)
        self.answers(None, self.sender.acknowledge, 0)
        self.answers(None, self.sender.acknowledge, -1)
        for _ in range(3):
            self.sender.dispatch("pay", [])
        for last in [0, 2, 3]:
            self.sender.acknowledge(last)
            for number in [4, 5, 1000000]:
                self.fails(Refused, self.sender, self.sender.acknowledge, number)

    def test_wrong_letters_are_not_sent(self):
        self.sender.dispatch("pay", ["a"])
        for fields in [[], ["a"]] + BAD_FIELDS:
            self.fails(BadValue, self.sender, self.sender.dispatch, "ack", fields)
        for kind in NO_NAMES:
            for fields in [[], ["a"]] + BAD_FIELDS:
                self.fails(BadValue, self.sender, self.sender.dispatch, kind, fields)
        for fields in BAD_FIELDS:
            self.fails(BadValue, self.sender, self.sender.dispatch, "pay", fields)
        self.assertEqual(read_letter(self.sender.dispatch("pay", []))[3], 2)

    def test_ends_that_are_no_names(self):
        for word in NO_NAMES:
            for end in [Sender(word, "beta"), Sender("alpha", word)]:
                self.fails(BadValue, end, end.dispatch, "pay", [])

    def test_kinds_like_ack(self):
        for number, kind in enumerate(["acks", "ac", "a", "back", "ack1"]):
            self.answers(write_letter((kind, "alpha", "beta", number + 1, [])), self.sender.dispatch, kind, [])

    def test_lists_are_not_kept(self):
        fields = ["a", "b"]
        text = self.sender.dispatch("pay", fields)
        fields.append("c" * 50)
        self.answers([text], self.sender.waiting)
        self.sender.waiting().append("x")
        self.sender.waiting().clear()
        self.answers([text], self.sender.waiting)
        self.assertEqual(read_letter(text)[4], ["a", "b"])
        self.sender.dispatch("pay", fields[:2])
        self.assertEqual(fields, ["a", "b", "c" * 50])

    def test_last_number(self):
        # Acknowledged all along, so that the list of what waits stays short.
        for number in range(1, 999999):
            self.sender.dispatch("k", [])
            self.sender.acknowledge(number)
        text = self.sender.dispatch("k", ["last"])
        self.assertEqual(read_letter(text), ("k", "alpha", "beta", 999999, ["last"]))
        self.answers(999999, self.sender.sent)
        self.fails(BadValue, self.sender, self.sender.dispatch, "k", [])
        self.fails(Refused, self.sender, self.sender.acknowledge, 1000000)
        self.answers([text], self.sender.waiting)


class ReceiverTest(LinkCase):

    def letter(self, number, kind="pay", sender="alpha", receiver="beta", fields=()):
        """The text of a letter, by default one of this link."""
        return write_letter((kind, sender, receiver, number, list(fields)))

    def test_at_first(self):
        self.answers(0, self.receiver.taken)
        self.answers(write_letter(("ack", "beta", "alpha", 0, [])), self.receiver.ack)

    def test_in_order(self):
        for number in range(1, 30):
            letter = ("k" + str(number), "alpha", "beta", number, [str(number)] * (number % 9))
            self.answers(letter, self.receiver.take, write_letter(letter))
            self.answers(number, self.receiver.taken)
            self.answers(write_letter(("ack", "beta", "alpha", number, [])), self.receiver.ack)

    def test_same_again_and_too_early(self):
        for last in range(6):
            for number in [0, 1, 2, 3, 4, 5, 6, 7, 8, 9, 999999]:
                if number != last + 1:
                    before = picture(self.receiver)
                    self.answers(None, self.receiver.take, self.letter(number))
                    self.assertEqual(picture(self.receiver), before)
            self.answers(last, self.receiver.taken)
            self.assertEqual(self.receiver.take(self.letter(last + 1))[3], last + 1)

    def test_letters_of_others(self):
        self.receiver.take(self.letter(1))
        for number in [0, 1, 2, 3]:
            for sender, receiver in [("gamma", "beta"), ("alpha", "gamma"), ("beta", "alpha"), ("alpha", "alpha"),
                                     ("beta", "beta"), ("gamma", "delta"), ("alph", "beta"), ("alpha", "betaa")]:
                for kind in ["pay", "ack"]:
                    text = self.letter(number, kind, sender, receiver)
                    self.fails(Refused, self.receiver, self.receiver.take, text)
            self.fails(Refused, self.receiver, self.receiver.take, self.letter(number, "ack"))
            self.fails(Refused, self.receiver, self.receiver.take, self.letter(number, "ack", fields=["a"]))
        self.assertEqual(self.receiver.take(self.letter(2, "acks"))[0], "acks")

    def test_damaged_comes_first(self):
        for sender, receiver in [("alpha", "beta"), ("gamma", "beta"), ("alpha", "gamma")]:
            for kind in ["pay", "ack"]:
                for number in [0, 1, 2]:
                    text = self.letter(number, kind, sender, receiver)
                    for wrong in [text[:-1], text + "0", "x" + text, text.replace("|", "", 1), ""]:
                        self.fails(Damaged, self.receiver, self.receiver.take, wrong)
        self.answers(0, self.receiver.taken)

    def test_what_is_taken_is_new(self):
        text = self.letter(1, fields=["a", "b"])
        letter = self.receiver.take(text)
        letter[4].append("c")
        other = Receiver("beta", "alpha")
        self.assertEqual(other.take(text)[4], ["a", "b"])

    def test_first_number_is_1(self):
        self.answers(None, self.receiver.take, self.letter(0))
        self.answers(None, self.receiver.take, self.letter(2))
        self.answers(0, self.receiver.taken)


class LinkTest(LinkCase):

    def test_lost_doubled_delayed_and_changed(self):
        for seed in range(30):
            rng = random.Random(seed)
            sender, receiver = Sender("alpha", "beta"), Receiver("beta", "alpha")
            sent, taken, mail = [], [], []
            for _ in range(300):
                self.random_step(rng, sender, receiver, sent, taken, mail)
                self.assertEqual(taken, sent[:len(taken)])
                self.assertEqual(receiver.taken(), len(taken))
                self.assertLessEqual(sender.acknowledged(), len(taken))
            for text in sender.waiting():
                letter = receiver.take(text)
                if letter is not None:
                    taken.append(letter)
            self.assertEqual(taken, sent)
            sender.acknowledge(read_letter(receiver.ack())[3])
            self.assertEqual(sender.waiting(), [])

    def random_step(self, rng, sender, receiver, sent, taken, mail):
        """Send, send again, lose, spoil, deliver or acknowledge something."""
        what = rng.randint(0, 5)
        if what == 0:
            fields = ["f" * rng.randint(0, 40)]
            sent.append(("kind", "alpha", "beta", len(sent) + 1, fields))
            mail.append(sender.dispatch("kind", fields))
        elif what == 1:
            mail.extend(sender.waiting()[:3])
        elif what == 2 and mail:
            mail.pop(rng.randrange(len(mail)))
        elif what == 3 and mail:
            at = rng.randrange(len(mail))
            place = rng.randrange(len(mail[at]))
            mail[at] = mail[at][:place] + rng.choice("a|09") + mail[at][place + 1:]
        elif what == 4:
            sender.acknowledge(read_letter(receiver.ack())[3])
        elif mail:
            text = mail.pop(rng.randrange(len(mail)))
            try:
                letter = receiver.take(text)
            except Damaged:
                letter = None
            if letter is not None:
                taken.append(letter)


if __name__ == "__main__":
    unittest.main()
