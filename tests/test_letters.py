"""[30] and [31]: letters, their texts, and texts that are no letters."""

import itertools
import random
import unittest

from corebank.errors import BadValue, Damaged
from corebank.letters import read_letter, write_letter
from tests.helper import NO_NAMES, Case

SIGNS = [chr(code) for code in range(32, 127) if chr(code) != "%"]
# The checks are counted by hand: each sign's code (| 124, a 97, b 98, c 99, 0 48 ..) times its place.
COUNTED = [
    # 97 + 248 + 294 + 496 + 495 + 744 + 336 + 992 = 3702
    (("a", "b", "c", 0, []), "a|b|c|0|3702"),
    # 3702 + 7 for the 1 in place of the 0
    (("a", "b", "c", 1, []), "a|b|c|1|3709"),
    # 3702 + 9 * 124 = 4818
    (("a", "b", "c", 0, [""]), "a|b|c|0||4818"),
    # 3702 + 9 * 32 + 10 * 124 = 5230
    (("a", "b", "c", 0, [" "]), "a|b|c|0| |5230"),
    # 3702 + (9 + .. + 16) * 124 = 16102, less 9973
    (("a", "b", "c", 0, [""] * 8), "a|b|c|0|||||||||6129"),
    # 3702 + 9 * 126 + 10 * 126 + 11 * 126 + 12 * 32 + 13 * 124 = 9478, and 14 * 35 + 124 * 15 more, less 9973
    (("a", "b", "c", 0, ["~~~ ", "#"]), "a|b|c|0|~~~ |#|1855"),
]
LETTERS = [
    ("ack", "alpha", "clearing", 0, []),
    ("pay", "alpha", "clearing", 1, ["alpha/k1", "beta", "1000", "7"]),
    ("funds", "clearing", "beta", 999999, ["alpha/k1", "alpha", "1000", "7"]),
    ("settled", "clearing", "a", 10, ["alpha/k1"]),
    ("abcdefghijkl", "z99999999999", "m", 100000, ["x" * 40] * 8),
    ("k", "s", "r", 5, [""] * 8),
    ("k", "s", "r", 5, ["", "0", " ", "ack", "~ ~", "007", "-1", ""]),
    ("k", "s", "r", 123456, ["".join(SIGNS).replace("|", "")[start:start + 40] for start in (0, 40, 80)]),
]
# For each part: good ones, and bad ones.
PARTS = [
    (["a", "abcdefghijkl", "z9", "ack"], NO_NAMES),
    (["b", "clearing"], NO_NAMES),
    (["c", "b"], NO_NAMES),
    ([0, 1, 999999], [-1, 1000000, -1000000, 10 ** 9]),
    ([[], ["x" * 40] * 8, [""]], [[""] * 9, ["x"] * 20, ["x" * 41], ["|"], ["a", "b|"], ["", "", "x" * 41], ["a|b", "c"]]),
]


def check_of(body):
    """The check, counted sign by sign."""
    total = 0
    for at in range(len(body)):
        total = (total + (at + 1) * ord(body[at])) % 9973
    return "0" * (4 - len(str(total))) + str(total)


def with_check(body):
    """A body with the check that belongs to it."""
    return body + check_of(body)


def small_bodies():
    """Bodies with checks of every size."""
    return ["k|s|r|" + str(number) + "|" + "x" * length + "|" for number in range(300) for length in range(20)]


class WriteTest(Case):

    def test_checks_counted_by_hand(self):
        for letter, text in COUNTED:
            self.answers(text, write_letter, letter)
            self.assertEqual(with_check(text[:-4]), text)

    def test_check_with_leading_zeros(self):
        found = set()
        for body in small_bodies():
            kind, sender, receiver, number, *fields, _ = body.split("|")
            self.answers(with_check(body), write_letter, (kind, sender, receiver, int(number), fields))
            found.add(len(check_of(body).lstrip("0")))
        self.assertEqual(found & {1, 2, 3, 4}, {1, 2, 3, 4})
        for place in range(41):
            text = write_letter(("k", "s", "r", 0, ["x" * place] * 8))
            self.assertEqual(text, with_check("|".join(["k", "s", "r", "0"] + ["x" * place] * 8) + "|"))

    def test_parts_stand_in_order(self):
        for kind, sender, receiver, number, fields in LETTERS:
            text = write_letter((kind, sender, receiver, number, fields))
            self.assertEqual(text.split("|")[:-1], [kind, sender, receiver, str(number)] + fields)
            self.assertEqual(text[-4:], check_of(text[:-4]))

    def test_each_part_wrong(self):
        good = [parts[0][0] for parts in PARTS]
        for place, (right, wrong) in enumerate(PARTS):
            for part in right:
                letter = tuple(good[:place] + [part] + good[place + 1:])
                self.assertEqual(read_letter(write_letter(letter)), letter)
            for part in wrong:
                self.raises(BadValue, write_letter, tuple(good[:place] + [part] + good[place + 1:]))

    def test_two_parts_wrong(self):
        for one, two in itertools.permutations(range(5), 2):
            for bad_one, bad_two in itertools.product(PARTS[one][1], PARTS[two][1]):
                letter = [parts[0][0] for parts in PARTS]
                letter[one], letter[two] = bad_one, bad_two
                self.raises(BadValue, write_letter, tuple(letter))

    def test_letter_is_not_changed(self):
        fields = ["a", "b"]
        write_letter(("k", "s", "r", 1, fields))
        self.assertEqual(fields, ["a", "b"])
        text = write_letter(("k", "s", "r", 1, fields))
        one, two = read_letter(text), read_letter(text)
        one[4].append("c")
        self.assertEqual(two[4], ["a", "b"])
        self.assertEqual(read_letter(text)[4], ["a", "b"])


class ReadTest(Case):

    def damaged(self, text):
        self.raises(Damaged, read_letter, text)

    def test_all_written_ones_are_read(self):
        for letter in LETTERS + [letter for letter, _ in COUNTED]:
            got = read_letter(write_letter(letter))
            self.assertEqual(got, letter)
            self.assertEqual([type(part) for part in got], [str, str, str, int, list])

    def test_random_letters_are_read(self):
        rng = random.Random(30)
        field_signs = [sign for sign in SIGNS if sign != "|"]
        for _ in range(2000):
            names = ["".join(rng.choices("abz09", k=rng.randint(0, 11))) for _ in range(3)]
            fields = ["".join(rng.choices(field_signs, k=rng.randint(0, 40))) for _ in range(rng.randint(0, 8))]
            letter = tuple(["n" + name for name in names] + [rng.choice([0, rng.randint(0, 999999)]), fields])
            text = write_letter(letter)
            self.assertEqual(text, with_check("|".join([*letter[:3], str(letter[3]), *fields]) + "|"))
            self.assertEqual(read_letter(text), letter)

    def test_one_sign_changed(self):
        for letter in LETTERS:
            text = write_letter(letter)
            for at in range(len(text)):
                for sign in SIGNS:
                    if sign != text[at]:
                        self.damaged(text[:at] + sign + text[at + 1:])

    def test_one_sign_left_out_or_doubled(self):
        for letter in LETTERS + [letter for letter, _ in COUNTED]:
            text = write_letter(letter)
            for at in range(len(text)):
                self.damaged(text[:at] + text[at + 1:])
                self.damaged(text[:at] + text[at] + text[at:])

    def test_neighbours_swapped(self):
        for letter in LETTERS + [letter for letter, _ in COUNTED]:
            text = write_letter(letter)
            for at in range(len(text) - 1):
                if text[at] != text[at + 1]:
                    self.damaged(text[:at] + text[at + 1] + text[at] + text[at + 2:])

    def test_numbers(self):
        for digits in ["00", "01", "0000001", "000000", " 1", "1 ", "+1", "-1", "-0", "", " ", "1000000", "9" * 7, "1_0",
                       "1.0", "x", "1x", "0x1", "1e3"]:
            self.damaged(with_check("k|s|r|" + digits + "|"))
            self.damaged(with_check("k|s|r|" + digits + "|field|"))
        for digits in ["0", "1", "10", "999999"]:
            self.answers(("k", "s", "r", int(digits), []), read_letter, with_check("k|s|r|" + digits + "|"))

    def test_checks(self):
        body = next(body for body in small_bodies() if check_of(body) < "0010")
        check = check_of(body)
        self.assertEqual(read_letter(body + check)[0], "k")
        for wrong in [check[1:], check[2:], check[3:], "0" + check, "00" + check, " " + check[1:], "+" + check[1:],
                      "-" + check[1:], str(int(check) + 9973), check + "0", "", "abcd", "000x", check[:3],
                      "0x" + check[2:], check[:2] + "." + check[3:]]:
            self.damaged(body + wrong)

    def test_number_of_parts(self):
        self.damaged("")
        for text in ["a", "k", "0000", "alpha", " ", "1234", "x" * 400]:
            self.damaged(text)
            self.damaged(with_check(text))
        for count in range(1, 20):
            for part in ["", "a", "0", "1"]:
                self.damaged("|".join([part] * count))
        for body in ["|", "k|", "k|s|", "k|s|r|", "k|s|1|", "k|1|", "1|"]:
            self.damaged(with_check(body))
        head = "k|s|r|0|"
        for many in range(9):
            self.assertEqual(read_letter(with_check(head + "f|" * many))[4], ["f"] * many)
        for many in [9, 10, 11, 100]:
            self.damaged(with_check(head + "f|" * many))
            self.damaged(with_check(head + "|" * many))

    def test_fields(self):
        for place in range(8):
            for length in [40, 41, 42, 300]:
                text = with_check("k|s|r|0|" + "|" * place + "x" * length + "|")
                if length == 40:
                    self.assertEqual(read_letter(text)[4], [""] * place + ["x" * 40])
                else:
                    self.damaged(text)

    def test_names(self):
        for place in range(3):
            for word in NO_NAMES:
                names = ["k", "s", "r"]
                names[place] = word
                self.damaged(with_check("|".join(names) + "|0|"))

    def test_signs_behind_the_check(self):
        for letter in LETTERS:
            text = write_letter(letter)
            for more in SIGNS + [" ", "||", "|0000", text, "|" + text]:
                self.damaged(text + more)
                self.damaged(more + text)

    def test_long_texts(self):
        for size in [3000, 5000, 20000]:
            for sign in ["x", "|", "9", "0", "1", " ", "a|", "0|", "1|9"]:
                self.damaged(sign * size)
                self.damaged("k|s|r|" + sign * size)
                self.damaged(with_check("k|s|r|" + sign * size + "|"))
                self.damaged(with_check("k|s|r|0|" + sign * size + "|"))
                self.damaged("k|s|r|0|" + sign * size)


if __name__ == "__main__":
    unittest.main()
