"""Points 46 to 48: which drifts are possible, who may stay, and the resets that part a log."""

import unittest
from itertools import product
from random import Random

from helpers import DRIFTS, LiteralCase, answers, contradictory_logs, contradicts, explained_logs, literal_least
from helpers import of_one_stretch, parts_of, parts_of_list, plain_log, raised, random_logs
from risingbars.drifts import does_part, least_resets, may_stay, possible_drifts, reset_places, rings_for_resets
from risingbars.drifts import staying_lots
from risingbars.errors import InvalidPlace, TooLarge, UnknownJudge
from risingbars.logs import Log
from risingbars.moves import fewest_moves
from risingbars.strikes import fewest_strikes

EXAMPLE = Log(["x", "y"], 1, [("ann", "rises")], [
    ("answer", "ann", "x", 1), ("answer", "ann", "y", 1), ("answer", "ann", "x", 0), ("answer", "ann", "y", 0)])
RING = Log(["x"], 1, [("j", "rises"), ("k", "stays")], [("answer", "j", "x", 0), ("answer", "j", "x", 1)])


def with_drifts(log, drifts):
    """The log with these drifts of its judges."""
    judges = [(judge, drift) for (judge, _), drift in zip(log.judges, drifts)]
    return Log(log.item_names, log.grades, judges, log.events)


def logs_of_judges(seed, many, judges, most_events, items="xy", grades=1):
    """Logs of so many judges, of each drift, who mostly keep to some qualities."""
    random = Random(seed)
    logs = []
    for _ in range(many):
        names = [(f"j{number}", random.choice(DRIFTS)) for number in random.sample(range(judges), judges)]
        events = []
        for _ in range(random.randint(0, most_events)):
            item = random.choice(items)
            grade = min(items.index(item), grades) if random.random() < 0.6 else random.randint(0, grades)
            events.append(("answer", random.choice(names)[0], item, grade))
        logs.append(Log(list(items), grades, names, events))
    return logs


def stubborn_logs(seed, many, judges):
    """Logs of judges each of whom would say, if staying, which items are worse, but says nothing by the drift."""
    random = Random(seed)
    logs = []
    for _ in range(many):
        names = [(f"j{number}", random.choice(("rises", "falls"))) for number in random.sample(range(9), judges)]
        events = []
        for judge, drift in names:
            rows = list(enumerate(random.sample("xyz", random.randint(0, 3))))
            for grade, item in rows[::-1] if drift == "rises" else rows:
                events.append(("answer", judge, item, grade))
        logs.append(Log(["x", "y", "z"], 2, names, events))
    return logs


def literal_possible(log):
    """Point 48, by the case of each row of drifts."""
    names = [judge for judge, _ in log.judges]
    rows = product(("rises", "falls"), repeat=len(names))
    return [row for row in rows if LiteralCase(log, drifts=dict(zip(names, row))).ring() is None]


def literal_lots(log):
    """Point 48, by the case of each lot of judges."""
    names = [judge for judge, _ in log.judges]
    lots = [lot for lot in parts_of_list(range(len(names)))
            if LiteralCase(log, drifts={names[number]: "stays" for number in lot}).ring() is None]
    most = [lot for lot in lots if not any(set(lot) < set(other) for other in lots)]
    return [[names[number] for number in lot] for lot in sorted(most)]


def literal_reset_places(log):
    """Point 46."""
    given = answers(log)
    return [place for place in given if any(other < place and of_one_stretch(log, other, place) for other in given)]


class Example(unittest.TestCase):
    def test_of_the_interface(self):
        log = EXAMPLE
        self.assertEqual([fewest_moves(log, "ann"), possible_drifts(log)], [([2], [(0, 2)]), [('rises',)]])
        back = log.with_drift("ann", "falls")
        self.assertEqual([fewest_strikes(back, "ann"), least_resets(back)],
                         [([2, 3], [(0, 2), (1, 3)]), [[2], [1, 3]]])


class PossibleDrifts(unittest.TestCase):
    def test_single(self):
        both = [("rises",), ("falls",)]
        for drift in DRIFTS:
            self.assertEqual(possible_drifts(Log(["x"], 1, [("j", drift)], [])), both)
            log = Log(["x", "y"], 2, [("j", drift)], [("answer", "j", "x", 0), ("answer", "j", "y", 1)])
            self.assertEqual(possible_drifts(log), both)
            up = Log(["x"], 2, [("j", drift)], [("answer", "j", "x", 0), ("answer", "j", "x", 1)])
            self.assertEqual(possible_drifts(up), [("falls",)])
            self.assertEqual(possible_drifts(up.backwards()), [("rises",)])
            self.assertEqual(possible_drifts(up.with_event(("answer", "j", "x", 0))), [])

    def test_two_judges(self):
        # One of them says that x is below y if rising, the other one that y is below x if falling.
        log = Log(["x", "y"], 1, [("k", "stays"), ("j", "falls")], [
            ("answer", "j", "x", 0), ("answer", "j", "y", 1), ("answer", "k", "x", 1), ("answer", "k", "y", 0)])
        self.assertEqual(possible_drifts(log), [("rises", "rises"), ("rises", "falls"), ("falls", "falls")])

    def test_each_row_of_drifts(self):
        counts = {True: 0, False: 0}
        for log in random_logs(221, 100, most_events=10) + logs_of_judges(222, 60, 3, 12):
            before = parts_of(log)
            told = possible_drifts(log)
            self.assertEqual(told, literal_possible(log))
            counts[len(told) == 2 ** len(log.judges)] += 1
            self.assertEqual(parts_of(log), before)
        self.assertGreater(min(counts.values()), 40)

    def test_8_judges(self):
        lengths = []
        for log in logs_of_judges(223, 6, 8, 20):
            told = possible_drifts(log)
            self.assertEqual(told, [row for row in product(("rises", "falls"), repeat=8)
                                    if not contradicts(with_drifts(log, row))])
            lengths.append(len(told))
        self.assertTrue(any(0 < many < 256 for many in lengths), lengths)
        log = Log(["x"], 1, [(f"j{at}", "stays") for at in range(8)], [])
        told = possible_drifts(log)
        self.assertEqual((len(told), told[0], told[1], told[-1]),
                         (256, ("rises",) * 8, ("rises",) * 7 + ("falls",), ("falls",) * 8))


class WhoMayStay(unittest.TestCase):
    def test_single(self):
        self.assertIs(may_stay(EXAMPLE, "ann"), False)
        self.assertIs(may_stay(EXAMPLE.beginning(2), "ann"), True)
        # Another judge who contradicts the log keeps the drift.
        self.assertIs(may_stay(RING, "j"), False)
        self.assertIs(may_stay(RING, "k"), False)
        self.assertIs(may_stay(RING.with_drift("j", "falls"), "k"), True)
        self.assertIs(may_stay(RING.with_drift("j", "falls"), "j"), False)

    def test_small_logs(self):
        counts = {True: 0, False: 0}
        for log in random_logs(224, 150):
            for judge, _ in log.judges:
                told = may_stay(log, judge)
                self.assertIs(told, LiteralCase(log, drifts={judge: "stays"}).ring() is None)
                counts[told] += 1
        self.assertGreater(min(counts.values()), 80)

    def test_unknown_judges(self):
        for log in (EXAMPLE, RING):
            for judge in ("bob", "x", "", "Ann"):
                self.assertEqual(raised(may_stay, log, judge), (UnknownJudge, judge))

    def test_single_lots(self):
        self.assertEqual(staying_lots(EXAMPLE), [[]])
        self.assertEqual(staying_lots(EXAMPLE.beginning(2)), [["ann"]])
        self.assertEqual(staying_lots(RING), [])
        self.assertEqual(staying_lots(RING.with_drift("j", "falls")), [["k"]])
        # The first two contradict one another if both stay, and the last one if one of them does.
        log = Log(["x", "y"], 1, [("k", "rises"), ("c", "rises"), ("a", "falls"), ("b", "falls")], [
            ("answer", "k", "y", 1), ("answer", "k", "x", 0), ("answer", "a", "y", 0), ("answer", "a", "x", 1)])
        self.assertEqual(staying_lots(log), [["k", "c", "b"], ["c", "a", "b"]])

    def test_all_lots(self):
        several = 0
        none = 0
        for log in random_logs(225, 100, most_events=10) + stubborn_logs(226, 60, 4):
            before = parts_of(log)
            told = staying_lots(log)
            self.assertEqual(told, literal_lots(log))
            several += len(told) > 1
            none += told == []
            self.assertEqual(parts_of(log), before)
        self.assertGreater(several, 15)
        self.assertGreater(none, 15)

    def test_lots_of_8_judges(self):
        several = 0
        for log in stubborn_logs(227, 8, 8):
            told = staying_lots(log)
            self.assertEqual(told, literal_lots(log))
            several += len(told) > 1
        self.assertGreater(several, 4)


class ResetPlaces(unittest.TestCase):
    def test_single(self):
        self.assertEqual(reset_places(plain_log()), [2, 6, 8, 10])
        self.assertEqual(reset_places(Log(["x"], 1, [("j", "rises")], [])), [])
        self.assertEqual(reset_places(EXAMPLE), [1, 2, 3])

    def test_small_logs(self):
        for log in random_logs(228, 150, most_events=16):
            before = parts_of(log)
            self.assertEqual(reset_places(log), literal_reset_places(log))
            self.assertIs(does_part(log, reset_places(log)), True)
            self.assertEqual(parts_of(log), before)

    def test_does_part(self):
        log = EXAMPLE.with_drift("ann", "stays").with_event(("reset", "ann")).with_event(("answer", "ann", "x", 1))
        for places, told in (([], False), ([2], True), ([1], False), ([3], False), ([1, 3], True), ([3, 1, 3], True),
                             ([0], False), ([5, 0], False), ([5, 2, 0, 2], True)):
            before = list(places)
            self.assertIs(does_part(log, places), told)
            self.assertEqual(places, before)

    def test_invalid_places(self):
        log = plain_log()
        for places, place in (([3], 3), ([0, 7, 3], 7), ([-1, 7], -1), ([2, 11], 11), ([-11], -11),
                              ([10 ** 30], 10 ** 30)):
            self.assertEqual(raised(does_part, log, places), (InvalidPlace, place))

    def test_what_is_no_place_for_resets_changes_nothing(self):
        for log in random_logs(229, 60) + contradictory_logs(230, 30):
            places = literal_reset_places(log)
            others = [place for place in answers(log) if place not in places]
            for lot in parts_of_list(places)[:40]:
                self.assertIs(does_part(log, others + lot + others), does_part(log, lot))

    def test_lists_of_small_logs(self):
        counts = {True: 0, False: 0}
        for log in random_logs(231, 40, most_events=7) + contradictory_logs(232, 40, most_events=7):
            for lot in parts_of_list(literal_reset_places(log))[:20]:
                told = LiteralCase(log, resets=lot).is_explained()
                self.assertIs(does_part(log, lot), told)
                counts[told] += 1
        self.assertGreater(min(counts.values()), 60)


class RingsForResets(unittest.TestCase):
    def test_single(self):
        log = Log(["x"], 2, [("j", "rises")], [("answer", "j", "x", grade) for grade in (0, 2, 1, 2, 2)])
        self.assertEqual(rings_for_resets(log), [[(0, 1)], [(2, 3)]])
        self.assertEqual(rings_for_resets(log.with_drift("j", "falls")), [[(2, 1)]])
        self.assertEqual(rings_for_resets(log.with_drift("j", "stays")), [[(0, 1)], [(2, 1)], [(2, 3)]])
        self.assertEqual(rings_for_resets(EXAMPLE), [])
        self.assertEqual(rings_for_resets(Log(["x"], 1, [("j", "rises")], [])), [])

    def test_places_behind_the_earlier_answer_up_to_the_later_one(self):
        # A reset ahead of the answer 2 puts an end to the rings of the answer 0 with 2 and with 5, but not to that of j.
        log = Log(["x", "y"], 2, [("j", "stays"), ("k", "stays")], [
            ("answer", "k", "x", 0), ("answer", "j", "x", 0), ("answer", "k", "x", 1), ("answer", "j", "y", 1),
            ("answer", "j", "x", 1), ("answer", "k", "x", 1)])
        self.assertEqual(rings_for_resets(log), [[(0, 2)], [(1, 4)]])

    def test_as_the_point_makes_them(self):
        several = 0
        for log in contradictory_logs(233, 120, most_events=12) + explained_logs(234, 20):
            before = parts_of(log)
            rings, parted = [], []
            ring = LiteralCase(log).ring()
            while ring is not None:
                rings.append(ring)
                more = [place for place in literal_reset_places(log) if any(
                    log.events[place][1] == log.events[one][1] and min(one, other) < place <= max(one, other)
                    for one, other in ring)]
                # No place serves two of them.
                self.assertFalse(set(more) & set(parted))
                self.assertTrue(more)
                parted = parted + more
                ring = LiteralCase(log, resets=parted).ring()
            self.assertEqual(rings_for_resets(log), rings)
            self.assertIs(does_part(log, parted), True)
            several += len(rings) > 1
            self.assertEqual(parts_of(log), before)
        self.assertGreater(several, 20)


class LeastResets(unittest.TestCase):
    def test_single(self):
        self.assertEqual(least_resets(EXAMPLE), [[]])
        self.assertEqual(least_resets(RING), [[1]])
        self.assertEqual(least_resets(Log(["x"], 1, [("j", "stays")], [])), [[]])
        log = Log(["x"], 1, [("j", "stays")], [("answer", "j", "x", grade) for grade in (0, 0, 1, 1)])
        self.assertEqual(least_resets(log), [[2]])
        self.assertEqual(least_resets(log.with_event(("answer", "j", "x", 0))), [[2, 4]])

    def test_all_lists_of_places(self):
        several = 0
        for log in contradictory_logs(235, 100, most_events=9) + random_logs(236, 40, most_events=8):
            before = parts_of(log)
            places = literal_reset_places(log)
            told = least_resets(log)
            self.assertEqual(told, literal_least(places, lambda lot: LiteralCase(log, resets=lot).ring() is None))
            several += len(told) > 1
            many = len(rings_for_resets(log))
            for lot in parts_of_list(places):
                self.assertIs(does_part(log, lot), any(set(least) <= set(lot) for least in told))
                self.assertLessEqual(many, len(lot) if does_part(log, lot) else many)
            self.assertEqual(parts_of(log), before)
        self.assertGreater(several, 20)

    def test_10_places(self):
        for drift in DRIFTS:
            log = Log(["x"], 1, [("j", drift)], [("answer", "j", "x", 0)] * 11
                      + [("reset", "j"), ("answer", "j", "x", 1)])
            self.assertEqual((len(reset_places(log)), least_resets(log)), (10, [[]]))
            more = log.with_event(("answer", "j", "x", 1))
            self.assertEqual(raised(least_resets, more), (TooLarge,))

    def test_40_answers(self):
        log = Log(["x"], 1, [("j", "stays"), ("k", "rises")], [("answer", "j", "x", 0), ("reset", "j")] * 39
                  + [("answer", "k", "x", 1)])
        self.assertEqual(least_resets(log), [[]])
        self.assertEqual(raised(least_resets, log.with_event(("answer", "j", "x", 0))), (TooLarge,))

    def test_10_places_of_40_answers(self):
        rows = [("answer", "j", "x", at % 2) for at in range(11)]
        log = Log(["x"], 1, [("j", "stays"), ("k", "rises")],
                  rows + [("answer", "k", "x", 1), ("reset", "k")] * 29)
        self.assertEqual((len(reset_places(log)), len(log.answers())), (10, 40))
        self.assertEqual(least_resets(log), [list(range(1, 11))])

    def test_new_each_time(self):
        log = RING
        for call in (lambda: possible_drifts(log), lambda: staying_lots(log.with_drift("j", "falls")),
                     lambda: reset_places(log), lambda: rings_for_resets(log), lambda: least_resets(log)):
            before = [list(part) if isinstance(part, list) else part for part in call()]
            for part in call():
                if isinstance(part, list):
                    part.clear()
            call().clear()
            self.assertEqual(call(), before)
            self.assertTrue(before)


if __name__ == "__main__":
    unittest.main()
