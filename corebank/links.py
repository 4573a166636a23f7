"""Links: one direction between two names, with a sending and a receiving end."""

from corebank.errors import BadValue, Refused
from corebank.letters import read_letter, write_letter

ACK = "ack"


class Sender:
    """The sending end: it numbers letters from 1 and keeps their texts until they are acknowledged."""

    def __init__(self, me, other):
        self.me = me
        self.other = other
        self._texts = []
        self._last = 0
        self._dropped = 0

    def dispatch(self, kind, fields):
        """Write the next letter, keep its text, and return it."""
        if kind == ACK:
            raise BadValue("an ack is not numbered")
        text = write_letter((kind, self.me, self.other, self._last + 1, fields))
        self._last += 1
        self._texts.append(text)
        return text

    def waiting(self):
        """The texts that are not acknowledged, in order."""
        return list(self._texts)

    def acknowledge(self, number):
        """Drop all texts up to this number."""
        if number > self._last:
            raise Refused("no letter of this number was sent")
        if number > self._dropped:
            self._texts = self._texts[number - self._dropped:]
            self._dropped = number

    def sent(self):
        """The number of the last letter; 0 ahead of the first."""
        return self._last

    def acknowledged(self):
        """The number up to which letters are acknowledged; 0 ahead of the first."""
        return self._dropped


class Receiver:
    """The receiving end: it takes letters in order, each once."""

    def __init__(self, me, other):
        self.me = me
        self.other = other
        self._last = 0

    def take(self, text):
        """Take the letter of a text and return it if it is the next one; None if it is another one."""
        letter = read_letter(text)
        kind, sender, receiver, number, _ = letter
        if (sender, receiver) != (self.other, self.me):
            raise Refused("the letter is not of this link")
        if kind == ACK:
            raise Refused("an ack is not taken")
        if number != self._last + 1:
            return None
        self._last = number
        return letter

    def taken(self):
        """The number of the last letter that was taken; 0 ahead of the first."""
        return self._last

    def ack(self):
        """The text that tells the sending end how far letters were taken."""
        return write_letter((ACK, self.me, self.other, self._last, []))
