"""Points 55 and 56: offices, their joined log, quarrels and peaces."""

import unittest
from copy import deepcopy
from itertools import combinations
from random import Random

import helpers
from helpers import DRIFTS, contradicts, explained_by, parts_of, raised
from risingbars.errors import TooLarge, Unexplained, UnlikeLogs
from risingbars.logs import Log
from risingbars.panels import explain_all, joined, peaces, quarrels, ring_in, together


def office(*rows, drift="rises", items="xyz", grades=1):
    """A log of one judge, who gives the items of the rows these grades; None is a reset."""
    events = [("reset", "j") if row is None else ("answer", "j", *row) for row in rows]
    return Log(list(items), grades, [("j", drift)], events)


# The one says that x is below y, and the other that y is below x; the last one contradicts itself.
UP = office(("x", 0), ("y", 1))
DOWN = office(("y", 0), ("x", 1))
RING = office(("z", 0), ("z", 1))
SILENT = office()


def small_offices(seed, many, most=6):
    """Lists of offices with the same items and grades, with at most 8 judges together, names of whom come again."""
    random = Random(seed)
    found = []
    for _ in range(many):
        items = random.sample("abcd", random.choice((1, 2, 3, 3)))
        grades = random.randint(1, 2)
        logs = []
        for _ in range(random.randint(1, most)):
            # Five more offices have a judge each in any case.
            free = 8 - sum(len(log.judges) for log in logs) - (5 - len(logs))
            judges = [(name, random.choice(DRIFTS)) for name in random.sample("ajk", random.randint(1, min(free, 3)))]
            events = []
            if len(items) > 1 and random.random() < 0.6:
                # One item is below another one by this.
                judge, drift = random.choice(judges)
                rows = [("answer", judge, item, grade) for grade, item in enumerate(random.sample(items, 2))]
                events += rows if drift == "rises" else rows[::-1]
            for _ in range(random.choice((0, 0, 1, 2, 3))):
                judge = random.choice(judges)[0]
                if random.random() < 0.2:
                    events.append(("reset", judge))
                else:
                    events.append(("answer", judge, random.choice(items), random.randint(0, grades)))
            logs.append(Log(items, grades, judges, events))
        found.append(logs)
    return found


def literal_joined(logs):
    """Point 55."""
    judges, events = [], []
    for number, log in enumerate(logs):
        names = [name for name, _ in log.judges]
        judges += [("o" + str(number) + "j" + str(at), drift) for at, (_, drift) in enumerate(log.judges)]
        for kind, judge, *rest in log.events:
            events.append((kind, "o" + str(number) + "j" + str(names.index(judge)), *rest))
    return Log(logs[0].item_names, logs[0].grades, judges, events)


def agrees(logs, lot):
    """Whether these offices, if there are any, have a joined log that is explained."""
    return not lot or not contradicts(literal_joined([logs[number] for number in lot]))


def parts_of_lot(lot):
    return [part for many in range(len(lot)) for part in combinations(lot, many)]


def all_lots(logs):
    numbers = range(len(logs))
    return sorted(lot for many in range(len(logs) + 1) for lot in combinations(numbers, many))


def literal_quarrels(logs):
    """Point 56."""
    return [lot for lot in all_lots(logs)
            if not agrees(logs, lot) and all(agrees(logs, part) for part in parts_of_lot(lot))]


def literal_peaces(logs):
    """Point 56."""
    def is_enough(lot):
        return agrees(logs, [number for number in range(len(logs)) if number not in lot])

    return [lot for lot in all_lots(logs)
            if is_enough(lot) and not any(is_enough(part) for part in parts_of_lot(lot))]


class Joined(unittest.TestCase):
    def test_single(self):
        one = Log(["y", "x"], 2, [("ann", "falls"), ("bob", "rises")], [
            ("answer", "bob", "x", 2), ("reset", "ann"), ("answer", "ann", "y", 0)])
        two = Log(["y", "x"], 2, [("bob", "stays")], [])
        three = Log(["y", "x"], 2, [("bob", "stays"), ("o0j0", "falls")], [("answer", "o0j0", "y", 1), ("reset", "bob")])
        self.assertEqual(parts_of(joined([one, two, three])), (
            ["y", "x"], 2,
            [("o0j0", "falls"), ("o0j1", "rises"), ("o1j0", "stays"), ("o2j0", "stays"), ("o2j1", "falls")],
            [("answer", "o0j1", "x", 2), ("reset", "o0j0"), ("answer", "o0j0", "y", 0), ("answer", "o2j1", "y", 1),
             ("reset", "o2j0")]))
        self.assertEqual(parts_of(joined([two])), (["y", "x"], 2, [("o0j0", "stays")], []))

    def test_small_offices(self):
        many = set()
        for logs in small_offices(301, 80):
            before = [parts_of(log) for log in logs]
            handed = list(logs)
            self.assertTrue(joined(logs).same_as(literal_joined(logs)))
            self.assertEqual(logs, handed)
            self.assertEqual([parts_of(log) for log in logs], before)
            many.add(len(logs))
        self.assertEqual(many, {1, 2, 3, 4, 5, 6})

    def test_the_same_log_several_times(self):
        self.assertEqual(joined([UP] * 6).judges, [(f"o{number}j0", "rises") for number in range(6)])
        self.assertEqual(len(joined([UP] * 6).events), 12)

    def test_qualities_explain_it_exactly_if_they_explain_all(self):
        counts = {True: 0, False: 0}
        for logs in small_offices(302, 60, most=3):
            whole = literal_joined(logs)
            before = [parts_of(log) for log in logs]
            for qualities in helpers.all_qualities(whole)[:20]:
                told = explained_by(whole, qualities)
                handed = dict(qualities)
                self.assertIs(explain_all(logs, qualities), told)
                self.assertEqual(all(explained_by(log, qualities) for log in logs), told)
                self.assertEqual(qualities, handed)
                counts[told] += 1
            self.assertEqual([parts_of(log) for log in logs], before)
        self.assertGreater(min(counts.values()), 100)

    def test_explain_all(self):
        self.assertIs(explain_all([UP, SILENT], {"x": -10 ** 30, "y": 10 ** 30, "z": 0}), True)
        self.assertIs(explain_all([UP, SILENT], {"x": 1, "y": 1, "z": 0}), False)
        self.assertIs(explain_all([SILENT, UP, DOWN], {"x": 0, "y": 1, "z": 0}), False)
        self.assertIs(explain_all([SILENT], {"x": 0, "y": 0, "z": 0}), True)


class Rings(unittest.TestCase):
    def test_single(self):
        self.assertIsNone(ring_in([UP, SILENT, UP]))
        self.assertEqual(ring_in([UP, DOWN]), [(0, 0, 1), (1, 0, 1)])
        self.assertEqual(ring_in([SILENT, UP, office(None, ("z", 1), ("y", 0), ("x", 1))]), [(1, 0, 1), (2, 2, 3)])
        self.assertEqual(ring_in([UP, DOWN, SILENT, RING]), [(3, 0, 1)])
        self.assertEqual(ring_in([RING, RING]), [(0, 0, 1)])

    def test_small_offices(self):
        several = 0
        for logs in small_offices(303, 240):
            whole = literal_joined(logs)
            ring = helpers.first_ring(whole)
            told = ring_in(logs)
            if ring is None:
                self.assertIsNone(told)
                continue
            starts = [sum(len(log.events) for log in logs[:number]) for number in range(len(logs))]
            self.assertEqual([(starts[number] + first, starts[number] + second) for number, first, second in told], ring)
            for number, first, second in told:
                self.assertIn((first, second), helpers.links(logs[number]))
            several += len({number for number, _, _ in told}) > 1
        self.assertGreater(several, 5)


class Quarrels(unittest.TestCase):
    def test_single(self):
        self.assertEqual((quarrels([UP, SILENT]), peaces([UP, SILENT])), ([], [()]))
        self.assertEqual((quarrels([SILENT]), peaces([SILENT])), ([], [()]))
        self.assertEqual((quarrels([RING]), peaces([RING])), ([(0,)], [(0,)]))
        self.assertEqual((quarrels([UP, DOWN]), peaces([UP, DOWN])), ([(0, 1)], [(0,), (1,)]))
        self.assertEqual((quarrels([UP, RING, DOWN]), peaces([UP, RING, DOWN])), ([(0, 2), (1,)], [(0, 1), (1, 2)]))
        self.assertEqual((quarrels([UP, DOWN, DOWN]), peaces([UP, DOWN, DOWN])), ([(0, 1), (0, 2)], [(0,), (1, 2)]))
        self.assertEqual(quarrels([DOWN, UP, RING, UP, RING, DOWN]), [(0, 1), (0, 3), (1, 5), (2,), (3, 5), (4,)])
        self.assertEqual(peaces([DOWN, UP, RING, UP, RING, DOWN]), [(0, 2, 4, 5), (1, 2, 3, 4)])

    def test_three_that_contradict_only_together(self):
        logs = [office(("x", 0), ("y", 1)), office(("y", 0), ("z", 1)), office(("z", 0), ("x", 1))]
        self.assertEqual((quarrels(logs), peaces(logs)), ([(0, 1, 2)], [(0,), (1,), (2,)]))
        self.assertEqual(ring_in(logs), [(0, 0, 1), (1, 0, 1), (2, 0, 1)])

    def test_all_lots_of_small_offices(self):
        several = 0
        for logs in small_offices(304, 240):
            before = [parts_of(log) for log in logs]
            told = quarrels(logs)
            peace = peaces(logs)
            self.assertEqual(told, literal_quarrels(logs))
            self.assertEqual(peace, literal_peaces(logs))
            # A lot is a peace exactly if it has an office of each quarrel, and would not without one of its own.
            def meets(lot):
                return all(set(lot) & set(quarrel) for quarrel in told)

            self.assertEqual(peace, [lot for lot in all_lots(logs) if meets(lot)
                                     and not any(meets(part) for part in parts_of_lot(lot))])
            several += len(told) > 1
            self.assertEqual([parts_of(log) for log in logs], before)
        self.assertGreater(several, 15)


class Together(unittest.TestCase):
    def test_single(self):
        self.assertEqual(together([UP, office(("y", 0), ("z", 1))]), [("x", "z")])
        self.assertEqual(together([UP, UP]), [])
        self.assertEqual(together([UP]), [])
        logs = [office(("x", 0), ("y", 1)), office(("y", 0), ("z", 1)), office(("x", 0), ("z", 1))]
        self.assertEqual(together(logs), [])

    def test_unexplained(self):
        for logs in ([UP, DOWN], [RING], [SILENT, RING], [UP, SILENT, DOWN]):
            self.assertEqual(raised(together, logs), (Unexplained,))
            for call in (joined, ring_in, quarrels, peaces):
                self.assertIsNone(raised(call, logs))

    def test_small_offices(self):
        more = 0
        for logs in small_offices(305, 400):
            whole = literal_joined(logs)
            if contradicts(whole):
                self.assertEqual(raised(together, logs), (Unexplained,))
                continue
            below = helpers.below(whole)
            told = [(worse, better) for worse in whole.item_names for better in whole.item_names
                    if worse in below[better] and not any(worse in helpers.below(log)[better] for log in logs)]
            self.assertEqual(together(logs), told)
            more += told != []
        self.assertGreater(more, 5)


CALLS = [joined, lambda logs: explain_all(logs, {item: 0 for item in logs[0].item_names}), ring_in, quarrels, peaces,
         together]


class Errors(unittest.TestCase):
    def assert_raised(self, logs, told):
        handed = list(logs)
        for call in CALLS:
            self.assertEqual(raised(call, logs), told)
        self.assertEqual(logs, handed)

    def test_unlike_logs(self):
        for other in (office(items="xy"), office(items="xyzw"), office(items="xyw"), office(items="xzy"),
                      office(items="zyx"), office(grades=2)):
            self.assert_raised([UP, other], (UnlikeLogs,))
            self.assert_raised([other, UP], (UnlikeLogs,))
            self.assert_raised([UP, DOWN, UP, RING, UP, other], (UnlikeLogs,))
            self.assert_raised([RING, other, UP], (UnlikeLogs,))

    def test_unlike_logs_ahead_of_too_large(self):
        judges = [(f"k{number}", "rises") for number in range(8)]
        big = Log(["x", "y", "z"], 1, judges, [("reset", "k0")] * 120)
        self.assert_raised([big, big, office(grades=2)], (UnlikeLogs,))
        self.assert_raised([big, UP], (TooLarge,))

    def test_8_judges(self):
        judges = [(f"k{number}", "rises") for number in range(8)]
        for many in range(1, 8):
            one = Log(["x", "y", "z"], 1, judges[:many], [])
            other = Log(["x", "y", "z"], 1, judges[:8 - many], [])
            for call in CALLS:
                self.assertIsNone(raised(call, [one, other]))
            self.assertEqual(len(joined([one, other]).judges), 8)
            self.assert_raised([one, other, SILENT], (TooLarge,))
            self.assert_raised([SILENT, other, one], (TooLarge,))

    def test_120_events(self):
        for many in (0, 1, 60, 119):
            one = Log(["x", "y", "z"], 1, [("j", "rises")], [("reset", "j")] * many)
            other = Log(["x", "y", "z"], 1, [("k", "rises")], [("answer", "k", "x", 0)] * (120 - many))
            for call in CALLS:
                self.assertIsNone(raised(call, [one, other]))
            self.assertEqual(len(joined([one, other]).events), 120)
            self.assert_raised([one, other.with_event_at(0, ("reset", "k")) if many else other, office(None)],
                               (TooLarge,))
            self.assert_raised([office(None), other, one], (TooLarge,))

    def test_too_large_ahead_of_unexplained(self):
        self.assertEqual(raised(together, [RING] + [Log(["x", "y", "z"], 1, [("j", "rises")], [("reset", "j")] * 119)]),
                         (TooLarge,))

    def test_new_each_time(self):
        logs = [UP, office(("y", 0), ("z", 1)), RING]
        for call in (lambda: ring_in(logs), lambda: quarrels(logs), lambda: peaces(logs),
                     lambda: together(logs[:2])):
            before = deepcopy(call())
            call().clear()
            self.assertEqual(call(), before)
            self.assertTrue(before)


if __name__ == "__main__":
    unittest.main()
