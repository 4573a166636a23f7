"""The first accounts of a bank's ledger, and the name of the clearing in letters."""

CASH = 1
NOSTRO = 2
TRANSIT = 3
SUSPENSE = 4
INTEREST = 5
CAPITAL = 6
CLEARING = "clearing"
