"""Points 44, 45 and 47: the fewest strikes, the rings apart, what frees a log, the least lists of strikes."""

import unittest
from random import Random

from helpers import LiteralCase, answers, contradictory_logs, contradicts, explained_logs, literal_least, of_one_stretch
from helpers import parts_of, parts_of_list, plain_log, raised, random_logs, yes_and_no_logs
from risingbars.cases import Case
from risingbars.errors import InvalidDrift, InvalidPlace, NotYesAndNo, TooLarge, UnknownJudge
from risingbars.logs import Log
from risingbars.strikes import does_free, fewest_strikes, least_strikes, rings_apart


def one_judge(drift, rows, items="xyz", grades=1):
    """A log of the judge j, who gives the items of the rows these grades; None is a reset."""
    events = [("reset", "j") if row is None else ("answer", "j", *row) for row in rows]
    return Log(list(items), grades, [("j", drift)], events)


def literal_stretches(log, judge):
    own = [place for place in answers(log) if log.events[place][1] == judge]
    rows = [[place for place in own if of_one_stretch(log, first, place)] for first in own]
    return [row for at, row in enumerate(rows) if row not in rows[:at]]


def literal_strikes(log, judge):
    """Point 44."""
    f = 1 if dict(log.judges)[judge] == "rises" else 0
    strikes, pairs = [], []
    for stretch in literal_stretches(log, judge):
        for item in log.item_names:
            row = [(place, log.events[place][3]) for place in stretch if log.events[place][2] == item]
            paired = []
            for place, grade in row:
                if grade == f:
                    free = [early for early, other in row if early < place and other != f and early not in paired]
                    if free:
                        paired.append(free[0])
                        pairs.append((free[0], place))
            taken = []
            for k in range(len(row) + 1):
                taken.append([place for place, grade in row[:k] if grade != f]
                             + [place for place, grade in row[k:] if grade == f])
            strikes += [told for told in taken if len(told) == min(map(len, taken))][0]
    return strikes, pairs


def literal_rings(log, case_with, ends_of):
    """The rings of a log, one after another, with what puts an end to those so far."""
    rings, places = [], []
    ring = case_with(places).ring()
    while ring is not None:
        rings.append(ring)
        places = places + ends_of(ring)
        ring = case_with(places).ring()
    return rings


class FewestStrikes(unittest.TestCase):
    def test_who_rises(self):
        log = one_judge("rises", [("y", 0), ("x", 0), ("x", 1), ("y", 1), ("x", 0), ("y", 1), ("x", 1), ("x", 1)])
        # Of y, two grades of 1 stand behind the one 0; of x, three of 1 and one of 0 behind the first 0.
        self.assertEqual(fewest_strikes(log, "j"), ([1, 4, 0], [(1, 2), (4, 6), (0, 3)]))

    def test_who_falls(self):
        log = one_judge("falls", [("x", 1), ("x", 0), ("y", 1), ("x", 0), ("y", 1), ("x", 1), ("y", 0)])
        self.assertEqual(fewest_strikes(log, "j"), ([0, 6], [(0, 1), (2, 6)]))

    def test_the_least_number_of_several(self):
        # With 0 and with 2 of the answers ahead there is one strike; with 1 there are none less.
        self.assertEqual(fewest_strikes(one_judge("rises", [("x", 0), ("x", 1)]), "j"), ([1], [(0, 1)]))
        self.assertEqual(fewest_strikes(one_judge("falls", [("x", 1), ("x", 0)]), "j"), ([1], [(0, 1)]))
        log = one_judge("rises", [("x", 0), ("x", 0), ("x", 1), ("x", 1)])
        self.assertEqual(fewest_strikes(log, "j"), ([2, 3], [(0, 2), (1, 3)]))
        log = one_judge("rises", [("x", 1), ("x", 0), ("x", 1), ("x", 0)])
        self.assertEqual(fewest_strikes(log, "j"), ([2], [(1, 2)]))

    def test_nothing_to_strike(self):
        for drift, early in (("rises", 1), ("falls", 0)):
            for rows in ([], [("y", 0)], [("y", 1)], [None, None], [("x", 1 - early), None, ("x", early)],
                         [("x", early), ("y", early), ("x", early), ("x", 1 - early), ("y", 1 - early)]):
                self.assertEqual(fewest_strikes(one_judge(drift, rows), "j"), ([], []), (drift, rows))

    def test_stretch_by_stretch_and_item_by_item(self):
        rows = [("z", 0), ("x", 0), ("z", 1), ("x", 1), None, ("y", 0), ("x", 0), ("x", 1), ("y", 1), ("z", 1)]
        for items, told in (("xyz", ([3, 2, 7, 8], [(1, 3), (0, 2), (6, 7), (5, 8)])),
                            ("zyx", ([2, 3, 8, 7], [(0, 2), (1, 3), (5, 8), (6, 7)]))):
            self.assertEqual(fewest_strikes(one_judge("rises", rows, items), "j"), told)

    def test_of_other_judges_nothing_is_told(self):
        log = Log(["x"], 1, [("j", "rises"), ("k", "falls"), ("i", "rises")], [
            ("answer", "k", "x", 1), ("answer", "j", "x", 0), ("reset", "k"), ("answer", "i", "x", 1),
            ("answer", "j", "x", 1), ("answer", "k", "x", 0)])
        self.assertEqual(fewest_strikes(log, "j"), ([4], [(1, 4)]))
        self.assertEqual(fewest_strikes(log, "k"), ([], []))
        self.assertEqual(fewest_strikes(log, "i"), ([], []))

    def test_errors_in_their_order(self):
        for grades, drift, told in ((2, "stays", (InvalidDrift,)), (1, "stays", (InvalidDrift,)),
                                    (2, "rises", (NotYesAndNo,)), (9, "falls", (NotYesAndNo,)),
                                    (1, "rises", None), (1, "falls", None)):
            log = one_judge(drift, [("x", 0), ("x", 1)], grades=grades)
            self.assertEqual(raised(fewest_strikes, log, "j"), told)
            for judge in ("k", "x", ""):
                self.assertEqual(raised(fewest_strikes, log, judge), (UnknownJudge, judge))

    def test_small_logs(self):
        several = 0
        for log in yes_and_no_logs(201, 800, most_events=16):
            before = parts_of(log)
            for judge, drift in log.judges:
                if drift != "stays":
                    told = fewest_strikes(log, judge)
                    self.assertEqual(told, literal_strikes(log, judge))
                    self.assertEqual(len(told[0]), len(told[1]))
                    several += len(told[0]) > 1
            self.assertEqual(parts_of(log), before)
        self.assertGreater(several, 60)

    def test_the_stretches_alone_and_no_fewer_strikes(self):
        tried = 0
        for log in yes_and_no_logs(202, 500, most_events=11):
            strikes, pairs = fewest_strikes(log, "j")
            stretches = literal_stretches(log, "j")
            others = [[place for place in answers(log) if place not in stretch] for stretch in stretches]

            def is_explained(lot):
                return all(Case(log, struck=struck + lot).is_explained() for struck in others)

            self.assertTrue(is_explained(strikes))
            for early, late in pairs:
                self.assertTrue(contradicts(log.only([early, late])))
            own = [place for stretch in stretches for place in stretch]
            for lot in parts_of_list(own):
                if len(lot) < len(strikes):
                    self.assertFalse(is_explained(lot))
                    tried += 1
        self.assertGreater(tried, 200)


class RingsApart(unittest.TestCase):
    def test_single(self):
        log = one_judge("stays", [("x", 0), ("x", 1), ("x", 0), ("x", 2), ("x", 1)], grades=2)
        self.assertEqual(rings_apart(log), [[(0, 1)], [(2, 3)]])
        log = one_judge("stays", [("x", 0), ("y", 1), ("y", 0), ("x", 1), ("z", 1)], grades=2)
        self.assertEqual(rings_apart(log), [[(0, 3)], [(2, 1)]])
        log = Log(["x", "y"], 1, [("j", "rises"), ("k", "rises")], [
            ("answer", "j", "x", 0), ("answer", "j", "y", 1), ("answer", "k", "y", 0), ("answer", "k", "x", 1)])
        self.assertEqual(rings_apart(log), [[(0, 1), (2, 3)]])

    def test_without_a_ring(self):
        self.assertEqual(rings_apart(Log(["x"], 1, [("j", "rises")], [])), [])
        for log in explained_logs(203, 30):
            self.assertEqual(rings_apart(log), [])

    def test_as_the_point_makes_them(self):
        several = 0
        for log in contradictory_logs(204, 120, most_events=12):
            before = parts_of(log)
            told = literal_rings(log, lambda places: LiteralCase(log, struck=places),
                                 lambda ring: [place for link in ring for place in link])
            rings = rings_apart(log)
            self.assertEqual(rings, told)
            several += len(rings) > 1
            # No two have an answer in common, and without all of them the log is explained.
            used = [sorted({place for link in ring for place in link}) for ring in rings]
            places = [place for row in used for place in row]
            self.assertEqual(len(places), len(set(places)))
            self.assertIs(does_free(log, places), True)
            self.assertEqual(parts_of(log), before)
        self.assertGreater(several, 20)

    def test_whatever_frees_has_as_many_answers(self):
        for log in contradictory_logs(205, 40, most_events=8):
            many = len(rings_apart(log))
            for lot in parts_of_list(list(answers(log))):
                if len(lot) < many:
                    self.assertIs(does_free(log, lot), False)


class DoesFree(unittest.TestCase):
    def test_single(self):
        log = one_judge("rises", [("x", 0), None, ("y", 0), ("y", 1), ("x", 1)])
        for places, told in (([], False), ([2], True), ([3], True), ([3, 2, 3], True), ([0, 4], False), ([0, 0], False),
                             ([0, 2, 3, 4], True), ([4, 2], True)):
            before = list(places)
            self.assertIs(does_free(log, places), told)
            self.assertEqual(places, before)
        self.assertIs(does_free(log.beginning(3), []), True)

    def test_invalid_places(self):
        log = one_judge("rises", [("x", 0), None, ("x", 0), ("x", 1)])
        for places, place in (([1], 1), ([0, -1, 1], -1), ([4, -1], 4), ([2, 3, 1, 9], 1), ([-4], -4),
                              ([10 ** 30], 10 ** 30)):
            self.assertEqual(raised(does_free, log, places), (InvalidPlace, place))
        self.assertEqual(raised(does_free, Log(["x"], 1, [("j", "rises")], []), [0]), (InvalidPlace, 0))

    def test_small_logs(self):
        counts = {True: 0, False: 0}
        for log in random_logs(206, 60, most_events=7) + contradictory_logs(207, 20, most_events=7):
            before = parts_of(log)
            for lot in parts_of_list(list(answers(log)))[:30]:
                told = LiteralCase(log, struck=lot).is_explained()
                self.assertIs(does_free(log, lot), told)
                self.assertIs(does_free(log, lot[::-1] + lot), told)
                counts[told] += 1
            self.assertEqual(parts_of(log), before)
        self.assertGreater(min(counts.values()), 60)


class LeastStrikes(unittest.TestCase):
    def test_single(self):
        log = one_judge("rises", [("x", 0), ("x", 1), ("x", 0), ("x", 1)])
        self.assertEqual(least_strikes(log), [[0, 2], [0, 3], [1, 3]])
        self.assertEqual(least_strikes(log, places=[3, 0, 3]), [[0, 3]])
        self.assertEqual(least_strikes(log, places=[3, 1]), [[1, 3]])
        for places in ([], [0], [2, 1], [1, 2, 1]):
            self.assertEqual(least_strikes(log, places=places), [])
        log = one_judge("rises", [None] * 3 + [("x", 0), ("x", 1)] + [None] * 3 + [("y", 0), ("y", 1)])
        self.assertEqual(least_strikes(log, places=[8, 3]), [[3, 8]])
        self.assertEqual(least_strikes(log, places=[9, 8, 4, 8]), [[4, 8], [4, 9]])
        log = one_judge("rises", [("x", 1), ("x", 0)])
        for places in (None, [], [0], [1, 0]):
            self.assertEqual(least_strikes(log, places=places), [[]])
        self.assertEqual(least_strikes(Log(["x"], 1, [("j", "rises")], [])), [[]])

    def test_by_their_number_and_then_as_lists(self):
        log = Log(["x", "y"], 1, [("j", "stays")], [
            ("answer", "j", "x", 0), ("answer", "j", "x", 1), ("answer", "j", "x", 1), ("answer", "j", "y", 1)])
        self.assertEqual(least_strikes(log), [[0], [1, 2]])

    def test_all_lists_of_answers(self):
        random = Random(208)
        several = 0
        for log in contradictory_logs(209, 80, most_events=8) + random_logs(210, 40, most_events=8):
            before = parts_of(log)
            given = list(answers(log))
            frees = {tuple(lot): LiteralCase(log, struck=lot).ring() is None for lot in parts_of_list(given)}
            told = least_strikes(log)
            self.assertEqual(told, literal_least(given, lambda lot: frees[tuple(lot)]))
            several += len(told) > 1
            for lot in parts_of_list(given):
                self.assertIs(does_free(log, lot), any(set(least) <= set(lot) for least in told))
            some = random.choices(given, k=random.randint(0, 5)) if given else []
            handed = list(some)
            self.assertEqual(least_strikes(log, places=some),
                             literal_least(sorted(set(some)), lambda lot: frees[tuple(lot)]))
            self.assertEqual((parts_of(log), some), (before, handed))
        self.assertGreater(several, 40)

    def test_invalid_places_ahead_of_too_large(self):
        log = plain_log()
        for places, place in (([3], 3), ([0, 7, -1], 7), ([0, -1, 7], -1), ([11], 11)):
            self.assertEqual(raised(least_strikes, log, places=places), (InvalidPlace, place))
        events = [("answer", "j", "x", 0)] * 41 + [("reset", "j")]
        log = Log(["x"], 1, [("j", "rises")], events)
        for places in ([41], [0, 41], list(range(20)) + [41, 42]):
            self.assertEqual(raised(least_strikes, log, places=places), (InvalidPlace, 41))

    def test_10_places(self):
        log = one_judge("rises", [("x", 0)] * 9 + [None, ("x", 1)])
        self.assertEqual(least_strikes(log), [[]])
        more = one_judge("rises", [("x", 0)] * 9 + [("x", 1), ("x", 0)])
        self.assertEqual(raised(least_strikes, more), (TooLarge,))
        self.assertEqual(raised(least_strikes, more, places=list(range(11))), (TooLarge,))
        self.assertEqual(least_strikes(more, places=list(range(10)) * 2), [[9], list(range(9))])
        self.assertEqual(least_strikes(more, places=[9] * 20 + [10]), [[9]])

    def test_40_answers(self):
        log = Log(["x"], 1, [("j", "rises")], [("answer", "j", "x", 0), ("reset", "j")] * 40)
        self.assertEqual(least_strikes(log, places=[0]), [[]])
        self.assertEqual(raised(least_strikes, log), (TooLarge,))
        more = log.with_event(("answer", "j", "x", 1))
        for places in ([], [0], list(range(0, 22, 2))):
            self.assertEqual(raised(least_strikes, more, places=places), (TooLarge,))
        self.assertEqual(least_strikes(more.only(list(range(0, 78, 2)) + [80]), places=[0, 2]), [[]])

    def test_new_each_time(self):
        log = one_judge("rises", [("x", 0), ("x", 1), ("x", 0), ("x", 1)])
        calls = [lambda: fewest_strikes(log, "j")[0], lambda: fewest_strikes(log, "j")[1], lambda: rings_apart(log),
                 lambda: least_strikes(log)]
        for call in calls:
            before = [list(part) if isinstance(part, list) else part for part in call()]
            for part in call():
                if isinstance(part, list):
                    part.clear()
            call().clear()
            self.assertEqual(call(), before)
            self.assertTrue(before)


if __name__ == "__main__":
    unittest.main()
