"""The interface: each name stands, defined, in its file, with the arguments that are told."""

import importlib
import inspect
import unittest

FUNCTIONS = {
    "amounts": {
        "format_amount": ["amount", "digits"],
        "parse_amount": ["text", "digits"],
        "divide_rounded": ["over", "under", "way"],
        "allocate": ["amount", "weights"],
        "split_equally": ["amount", "parts"],
        "is_amount": ["number"],
    },
    "days": {
        "is_day": ["number"],
        "date_of": ["day"],
        "day_of": ["year", "month", "in_month"],
        "weekday": ["day"],
        "is_working": ["day", "holidays"],
        "adjust": ["day", "holidays", "how"],
        "due_day": ["start", "months", "number"],
    },
    "products": {
        "check_tiers": ["tiers"],
        "parts_of": ["tiers", "size"],
        "daily_parts": ["credit", "debit", "balance"],
    },
    "orders": {
        "is_name": ["text"],
    },
    "letters": {
        "write_letter": ["letter"],
        "read_letter": ["text"],
    },
    "bank": {
        "replay": ["name", "currency", "day", "chief", "deeds"],
    },
    "reconcile": {
        "match": ["ours", "theirs", "window"],
    },
    "statements": {
        "statement": ["ledger", "account", "first", "last"],
        "daily": ["ledger", "account", "first", "last"],
    },
}
CLASSES = {
    "errors": ["BankError", "BadValue", "BadDay", "Missing", "Refused", "Full", "NotAllowed", "Damaged"],
    "ledger": ["Ledger"],
    "products": ["Product"],
    "deposits": ["Deposits"],
    "orders": ["Orders"],
    "links": ["Sender", "Receiver"],
    "clearing": ["Clearing"],
    "bank": ["Bank"],
    "system": ["System"],
}
VALUES = {
    "amounts": {"LIMIT": 1000000000, "GREAT": 1000000000000},
    "days": {"LAST_DAY": 36524},
    "ledger": {"SORTS": ("asset", "debt", "equity", "income", "cost")},
    "products": {"PARTS": 3600000},
    "orders": {"ROLES": ("teller", "officer", "chief")},
    "chart": {"CASH": 1, "NOSTRO": 2, "TRANSIT": 3, "SUSPENSE": 4, "INTEREST": 5, "CAPITAL": 6, "CLEARING": "clearing"},
}
METHODS = {
    ("ledger", "Ledger"): {
        "__init__": [],
        "open_account": ["currency", "sort"],
        "post": ["day", "value", "cause", "lines"],
        "reverse": ["number", "day", "cause"],
        "balance": ["account", "booked", "value"],
        "lines_of": ["account"],
        "entry": ["number"],
        "sums": ["currency", "booked", "value"],
        "currency_of": ["account"],
        "sort_of": ["account"],
        "accounts": [],
        "entries": [],
    },
    ("products", "Product"): {
        "__init__": ["name", "currency", "way"],
        "add_version": ["first", "credit", "debit"],
        "version_at": ["day"],
        "parts_at": ["day", "balance"],
    },
    ("deposits", "Deposits"): {
        "__init__": ["ledger"],
        "start": ["product", "owner", "day"],
        "state_of": ["account"],
        "limit_of": ["account"],
        "owner_of": ["account"],
        "opened_on": ["account"],
        "product_of": ["account"],
        "own_balance": ["account"],
        "numbers": [],
        "set_limit": ["account", "limit"],
        "freeze": ["account"],
        "thaw": ["account"],
        "finish": ["account"],
        "hold": ["account", "amount", "until"],
        "held": ["account"],
        "available": ["account"],
        "release": ["hold"],
        "consume": ["hold"],
        "lapse": ["day"],
        "hold_of": ["number"],
        "check_debit": ["account", "amount"],
        "check_credit": ["account", "amount"],
        "accrue": ["account", "day"],
        "would_accrue": ["account", "day"],
        "accrued": ["account"],
        "credit_interest": ["account", "day", "against", "cause"],
    },
    ("orders", "Orders"): {
        "__init__": [],
        "add_user": ["name", "role"],
        "role_of": ["name"],
        "may": ["name", "role"],
        "set_rule": ["kind", "rows"],
        "place": ["by", "kind", "amount", "key", "until"],
        "grant": ["by", "number"],
        "reject": ["by", "number"],
        "withdraw": ["by", "number"],
        "expire": ["day"],
        "complete": ["number"],
        "fail": ["number"],
        "order": ["number"],
        "by_key": ["key"],
    },
    ("links", "Sender"): {
        "__init__": ["me", "other"],
        "dispatch": ["kind", "fields"],
        "waiting": [],
        "acknowledge": ["number"],
        "sent": [],
        "acknowledged": [],
    },
    ("links", "Receiver"): {
        "__init__": ["me", "other"],
        "take": ["text"],
        "taken": [],
        "ack": [],
    },
    ("clearing", "Clearing"): {
        "__init__": [],
        "add_member": ["name", "floor"],
        "fund": ["name", "units"],
        "submit": ["key", "payer", "payee", "amount"],
        "queue": [],
        "settle": [],
        "balance_of": ["name"],
        "floor_of": ["name"],
        "members": [],
    },
    ("bank", "Bank"): {
        "__init__": ["name", "currency", "day", "chief"],
        "do": ["by", "deed", "arguments"],
        "deeds": [],
        "outgoing": [],
        "incoming": [],
        "receive": ["text"],
        "pending": [],
        "saved": [],
        "crash": [],
        "outbox": [],
        "take_ack": ["text"],
        "ack": [],
        "image": [],
        "fund": ["amount"],
    },
    ("system", "System"): {
        "__init__": ["currency", "day", "names"],
        "bank": ["name"],
        "fund": ["name", "amount"],
        "collect": [],
        "deliver": ["place"],
        "duplicate": ["place"],
        "lose": ["place"],
        "spoil": ["place", "at", "sign"],
        "settle": [],
        "crash": ["name"],
        "quiet": [],
        "stage": ["full_key"],
        "total": [],
    },
}
FIELDS = {
    ("products", "Product"): (["save", "EUR", "even"], {"name": "save", "currency": "EUR", "way": "even"}),
    ("bank", "Bank"): (["alpha", "EUR", 5, "boss"], {"name": "alpha", "currency": "EUR", "day": 5}),
    ("system", "System"): (["EUR", 5, ["a", "b"]], {"mail": []}),
}
# Fields that are objects of a class.
OBJECTS = {
    ("bank", "Bank"): (["alpha", "EUR", 5, "boss"], {"ledger": "Ledger", "deposits": "Deposits", "orders": "Orders"}),
    ("system", "System"): (["EUR", 5, ["a", "b"]], {"clearing": "Clearing"}),
}


def module(name):
    return importlib.import_module("corebank." + name)


class InterfaceTest(unittest.TestCase):

    def test_functions(self):
        for name, functions in FUNCTIONS.items():
            for function, arguments in functions.items():
                found = getattr(module(name), function)
                self.assertTrue(inspect.isfunction(found), function)
                self.assertEqual(found.__module__, "corebank." + name, function)
                self.assertEqual(list(inspect.signature(found).parameters), arguments, function)

    def test_classes(self):
        for name, classes in CLASSES.items():
            for word in classes:
                found = getattr(module(name), word)
                self.assertTrue(inspect.isclass(found), word)
                self.assertEqual(found.__module__, "corebank." + name, word)

    def test_methods(self):
        for (name, word), methods in METHODS.items():
            found = getattr(module(name), word)
            for method, arguments in methods.items():
                # In the body of the class itself, not inherited.
                self.assertIn(method, vars(found), word)
                self.assertTrue(inspect.isfunction(vars(found)[method]), method)
                self.assertEqual(list(inspect.signature(vars(found)[method]).parameters), ["self"] + arguments, method)

    def test_fields(self):
        for (name, word), (arguments, fields) in FIELDS.items():
            made = getattr(module(name), word)(*arguments)
            for field, value in fields.items():
                self.assertEqual(vars(made)[field], value, field)

    def test_objects(self):
        for (name, word), (arguments, fields) in OBJECTS.items():
            made = getattr(module(name), word)(*arguments)
            for field, kind in fields.items():
                self.assertIs(type(vars(made)[field]), getattr(module(field), kind), field)

    def test_values(self):
        for name, values in VALUES.items():
            for word, value in values.items():
                found = getattr(module(name), word)
                self.assertEqual(found, value, word)
                self.assertIs(type(found), type(value), word)


if __name__ == "__main__":
    unittest.main()
