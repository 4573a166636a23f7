"""Rows that each count from a number on, as [17], [19] and [27] tell."""

import unittest

from corebank.amounts import LIMIT
from corebank.errors import BadValue
from corebank.steps import check_starts, last_begun
from tests.helper import Case


class StepsTest(Case):

    def test_starts(self):
        for starts in [[0], [0, 1], [0, 1, 2, 3], [0, LIMIT], [0, 5, LIMIT - 1, LIMIT]]:
            self.answers(None, check_starts, starts)
        for starts in [[1], [-1], [LIMIT], [0, 0], [0, -1], [0, 5, 5], [0, 5, 4], [0, LIMIT + 1], [0, 1, LIMIT + 1],
                       [-1, 0], [1, 2]]:
            self.raises(BadValue, check_starts, starts)

    def test_last_begun(self):
        for starts, number, place in [([], 5, None), ([3], 2, None), ([3], 3, 0), ([3], 4, 0), ([0, 10, 20], 9, 0),
                                      ([0, 10, 20], 10, 1), ([0, 10, 20], 19, 1), ([0, 10, 20], 20, 2),
                                      ([0, 10, 20], 10 ** 20, 2), ([0, 10, 20], -1, None)]:
            self.answers(place, last_begun, starts, number)


if __name__ == "__main__":
    unittest.main()
