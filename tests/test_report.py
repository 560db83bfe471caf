"""Point 61: the tables and the written ring."""

import unittest

import helpers
from helpers import contradictory_logs, explained_logs, parts_of
from risingbars.explain import ring_of
from risingbars.logs import Log
from risingbars.report import forecast_table, pair_table, ring_line

LONG = Log(["b", "longername12", "abc"], 2, [("judge1", "rises"), ("k", "falls")], [
    ("answer", "judge1", "abc", 1), ("answer", "judge1", "b", 2), ("answer", "k", "longername12", 1)])
RING = Log(["x", "y"], 1, [("j", "rises"), ("k", "rises")], [
    ("answer", "j", "x", 0), ("answer", "k", "y", 0), ("answer", "j", "y", 1), ("answer", "k", "x", 1)])


def literal_pair_table(log):
    """Point 61, for a log that does not contradict itself."""
    below = helpers.below(log)
    longest = max(len(name) for name in log.item_names)
    lines = []
    for name in log.item_names:
        line = name
        while len(line) < longest:
            line += " "
        line += " "
        for other in log.item_names:
            line += "=" if name == other else "<" if name in below[other] else ">" if other in below[name] else "."
        lines.append(line)
    return "\n".join(lines)


def literal_forecast_table(log):
    """Point 61, for a log that does not contradict itself."""
    longest = max(len(judge) for judge, _ in log.judges)
    lines = []
    for judge, _ in log.judges:
        line = judge + " " * (longest - len(judge))
        for item in log.item_names:
            grades = []
            for grade in range(log.grades + 1):
                events = log.events + [("answer", judge, item, grade)]
                if not helpers.contradicts(Log(log.item_names, log.grades, log.judges, events)):
                    grades.append(grade)
            line += f" {grades[0]}-{grades[-1]}"
        lines.append(line)
    return "\n".join(lines)


class Tables(unittest.TestCase):
    def test_names_of_other_lengths(self):
        self.assertEqual(pair_table(LONG), "b            =.>\nlongername12 .=.\nabc          <.=")
        self.assertEqual(forecast_table(LONG), "judge1 0-2 0-2 0-1\nk      0-2 1-2 0-2")

    def test_one_item(self):
        log = Log(["x"], 9, [("j", "stays")], [])
        self.assertEqual((pair_table(log), forecast_table(log)), ("x =", "j 0-9"))
        log = log.with_event(("answer", "j", "x", 4))
        self.assertEqual((pair_table(log), forecast_table(log)), ("x =", "j 4-4"))

    def test_of_a_log_that_contradicts_itself(self):
        self.assertEqual(pair_table(RING), "ring: 0-2 1-3")
        self.assertEqual(forecast_table(RING), "ring: 0-2 1-3")
        log = Log(["x"], 1, [("j", "stays")], [("reset", "j")] * 10 + [("answer", "j", "x", 1), ("answer", "j", "x", 0)])
        self.assertEqual((pair_table(log), forecast_table(log)), ("ring: 11-10", "ring: 11-10"))

    def test_small_logs(self):
        for log in explained_logs(321, 80):
            before = parts_of(log)
            self.assertEqual(pair_table(log), literal_pair_table(log))
            self.assertEqual(forecast_table(log), literal_forecast_table(log))
            self.assertEqual(parts_of(log), before)
        several = 0
        for log in contradictory_logs(322, 200):
            line = "ring:"
            for first, second in helpers.first_ring(log):
                line += f" {first}-{second}"
            self.assertEqual((pair_table(log), forecast_table(log)), (line, line))
            several += len(line.split(" ")) > 2
        self.assertGreater(several, 2)

    def test_names_of_small_logs(self):
        names = {"a": "a", "b": "bb0", "c": "c23456789012", "d": "dd", "j": "judge", "k": "k"}
        for log in explained_logs(323, 30):
            events = [(kind, names[judge], *[names.get(word, word) for word in rest])
                      for kind, judge, *rest in log.events]
            told = Log([names[item] for item in log.item_names], log.grades,
                       [(names[judge], drift) for judge, drift in log.judges], events)
            self.assertEqual(pair_table(told), literal_pair_table(told))
            self.assertEqual(forecast_table(told), literal_forecast_table(told))


class RingLine(unittest.TestCase):
    def test_of_one_link_and_of_more(self):
        self.assertEqual(ring_line([(0, 1)]), "0-1")
        self.assertEqual(ring_line([(119, 7)]), "119-7")
        self.assertEqual(ring_line([(0, 2), (1, 3)]), "0-2 1-3")
        self.assertEqual(ring_line(ring_of(RING)), "0-2 1-3")
        ring = [(10, 2), (3, 40), (5, 6)]
        self.assertEqual(ring_line(ring), "10-2 3-40 5-6")
        self.assertEqual(ring, [(10, 2), (3, 40), (5, 6)])


if __name__ == "__main__":
    unittest.main()
