"""[50]: two lists of movements are matched."""

import random
import unittest

from corebank.errors import BadValue
from corebank.reconcile import match
from tests.helper import Case


def slow_match(ours, theirs, window):
    """The same by the words of the document, one by one."""
    pairs, mine, yours = [], list(range(len(ours))), list(range(len(theirs)))
    for near in [False, True]:
        for place in list(mine):
            for other in yours:
                if ours[place][2] != theirs[other][2]:
                    continue
                if abs(ours[place][1] - theirs[other][1]) <= window if near else ours[place][0] == theirs[other][0]:
                    pairs.append((place, other))
                    mine.remove(place)
                    yours.remove(other)
                    break
    return pairs, mine, yours


class MatchTest(Case):

    def test_empty(self):
        self.answers(([], [], []), match, [], [], 0)
        self.answers(([], [0, 1], []), match, [("a", 1, 1), ("b", 1, 1)], [], 5)
        self.answers(([], [], [0, 1]), match, [], [("a", 1, 1), ("b", 1, 1)], 5)

    def test_window_below_0(self):
        for window in [-1, -2, -10 ** 9]:
            for ours, theirs in [([], []), ([("a", 1, 1)], [("a", 1, 1)])]:
                self.raises(BadValue, match, ours, theirs, window)
        self.answers(([(0, 0)], [], []), match, [("a", 1, 1)], [("a", 1, 1)], 0)

    def test_same_key_and_units(self):
        # Whatever the days.
        self.answers(([(0, 1), (1, 0)], [], []), match, [("a", 1, 5), ("b", 2, 6)], [("b", 900, 6), ("a", -900, 5)], 0)

    def test_same_keys_several_times(self):
        ours = [("a", 1, 5), ("a", 2, 5), ("a", 3, 6), ("a", 4, 5)]
        theirs = [("a", 9, 6), ("a", 9, 5), ("b", 9, 5), ("a", 9, 5), ("a", 9, 6)]
        self.answers(([(0, 1), (1, 3), (2, 0)], [3], [2, 4]), match, ours, theirs, 0)
        self.answers(([(0, 1), (1, 3), (2, 0), (3, 2)], [], [4]), match, ours, theirs, 5)

    def test_units_that_differ(self):
        self.answers(([], [0], [0]), match, [("a", 1, 5)], [("a", 1, 6)], 100)
        self.answers(([], [0], [0]), match, [("a", 1, 5)], [("a", 1, -5)], 100)

    def test_by_days(self):
        for days, window, paired in [(0, 0, True), (1, 0, False), (1, 1, True), (2, 1, False), (5, 5, True), (6, 5, False)]:
            for sign in [1, -1]:
                expected = ([(0, 0)], [], []) if paired else ([], [0], [0])
                self.answers(expected, match, [("a", 50, 7)], [("b", 50 + sign * days, 7)], window)

    def test_first_one_and_not_the_nearest(self):
        ours = [("a", 10, 5)]
        theirs = [("x", 14, 5), ("y", 12, 5), ("z", 10, 5)]
        self.answers(([(0, 1)], [], [0, 2]), match, ours, theirs, 3)
        self.answers(([(0, 0)], [], [1, 2]), match, ours, theirs, 4)
        self.answers(([(0, 2)], [], [0, 1]), match, ours, theirs, 1)

    def test_keys_come_first(self):
        # The first of ours could take the only one of theirs by its day, which the second one has by its key.
        self.answers(([(1, 0)], [0], []), match, [("a", 10, 5), ("b", 99, 5)], [("b", 10, 5)], 3)

    def test_order_of_the_pairs(self):
        ours = [("x", 1, 1), ("b", 2, 2), ("y", 3, 3), ("a", 4, 4)]
        theirs = [("a", 9, 4), ("q", 3, 3), ("r", 1, 1), ("b", 9, 2)]
        self.answers(([(1, 3), (3, 0), (0, 2), (2, 1)], [], []), match, ours, theirs, 1)

    def test_first_of_ours_takes_the_first(self):
        ours = [("a", 10, 5), ("b", 11, 5), ("c", 12, 5)]
        theirs = [("x", 11, 5), ("y", 10, 5)]
        self.answers(([(0, 0), (1, 1)], [2], []), match, ours, theirs, 1)

    def test_any_keys_days_and_units(self):
        ours = [("", -5, 0), ("%|", 10 ** 9, -7), ("long " * 20, 0, 10 ** 12)]
        theirs = [("long " * 20, 7, 10 ** 12), ("", 8, 0), ("other", 10 ** 9 + 1, -7)]
        self.answers(([(0, 1), (2, 0), (1, 2)], [], []), match, ours, theirs, 1)

    def test_nothing_is_changed_or_kept(self):
        ours, theirs = [("a", 1, 5), ("b", 1, 6), ("c", 1, 7)], [("a", 1, 5), ("c", 2, 6), ("d", 1, 9)]
        before = list(ours), list(theirs)
        first = match(ours, theirs, 1)
        self.assertEqual((ours, theirs), before)
        for part in first:
            part.append("x")
        self.answers(([(0, 0), (1, 1)], [2], [2]), match, ours, theirs, 1)

    def test_random_lists(self):
        for seed in range(400):
            rng = random.Random(seed)
            lists = [[(rng.choice("abc"), rng.randint(0, 9), rng.randint(1, 3)) for _ in range(rng.randint(0, 12))]
                     for _ in range(2)]
            window = rng.randint(0, 4)
            self.answers(slow_match(lists[0], lists[1], window), match, lists[0], lists[1], window)

    def test_long_lists(self):
        ours = [("k" + str(place), place, place % 10) for place in range(1500)]
        theirs = [("k" + str(place), place, place % 10) for place in reversed(range(1500))]
        pairs, left, other = match(ours, theirs, 0)
        self.assertEqual(pairs, [(place, 1499 - place) for place in range(1500)])
        self.assertEqual((left, other), ([], []))


if __name__ == "__main__":
    unittest.main()
