"""The chart: the constants that the interface lists."""

import unittest

from corebank import chart
from tests.helper import Case

ACCOUNTS = {"CASH": 1, "NOSTRO": 2, "TRANSIT": 3, "SUSPENSE": 4, "INTEREST": 5, "CAPITAL": 6}


class ChartTest(Case):

    def test_accounts(self):
        for word, number in ACCOUNTS.items():
            self.answers(number, getattr, chart, word)

    def test_clearing(self):
        self.answers("clearing", getattr, chart, "CLEARING")


if __name__ == "__main__":
    unittest.main()
