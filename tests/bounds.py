"""Logs at the bounds, and the time that a call with one of them may take."""

import unittest
from random import Random
from time import perf_counter

from helpers import raised
from risingbars.errors import Unexplained
from risingbars.logs import Log

SECONDS = 5
ITEMS = [f"i{number}" for number in range(20)]


def rows_of_bounds():
    """Grades of 120 answers: mostly in order, or mostly against it, or any."""
    random = Random(121)
    return {"up": [(ITEMS[at // 6], at // 12) for at in range(120)],
            "down": [(ITEMS[at // 6], 9 - at % 6) for at in range(120)],
            "any": [(random.choice(ITEMS), random.randint(0, 9)) for _ in range(120)],
            "spread": [(ITEMS[at % 20], 9 - at // 13) for at in range(120)],
            "even": [(ITEMS[at % 20], at % 20 // 2) for at in range(120)]}


def logs_of_bounds():
    """Logs of 20 items, 8 judges and 120 events, of which one judge or all eight have answers."""
    logs = {}
    for number, (name, rows) in enumerate(rows_of_bounds().items()):
        for drift in ("rises", "falls", "stays"):
            judges = [(f"j{at}", drift) for at in range(8)]
            many = 1 if (drift == "falls") == (number % 2 == 1) else 8
            logs[name, drift, many] = Log(ITEMS, 9, judges, [
                ("answer", f"j{at % many}", *row) for at, row in enumerate(rows)])
    return logs


class Quick(unittest.TestCase):
    """What tests with logs at the bounds ask."""

    def assert_quick(self, call, *values, **named):
        """Call, and return what it returns or the error that it raises."""
        before = perf_counter()
        told = []
        error = raised(lambda: told.append(call(*values, **named)))
        self.assertLess(perf_counter() - before, SECONDS, call)
        return error if error else told[0]

    def assert_explained_or_not(self, calls, log, is_explained):
        for call in calls:
            told = self.assert_quick(call, log)
            self.assertEqual(told == (Unexplained,), not is_explained, call)
