"""Points 40 to 43 and 47: crossings, the fewest moves, the rings for moves, the least lists."""

import unittest
from itertools import combinations

from helpers import LiteralCase, answers, contradictory_logs, contradicts, explained_logs, literal_least, moving_logs
from helpers import of_one_stretch, parts_of, parts_of_list, plain_log, raised, random_logs, yes_and_no_logs
from risingbars.cases import Case
from risingbars.errors import InvalidDrift, InvalidPlace, NotYesAndNo, TooLarge, Unexplained, UnknownJudge
from risingbars.logs import Log
from risingbars.moves import are_enough, crossings, crossings_apart, fewest_moves, least_moves, move_places
from risingbars.moves import rings_for_moves

TURNS = Log(["x", "y"], 1, [("ann", "rises")], [
    ("answer", "ann", "x", 1), ("answer", "ann", "y", 1), ("answer", "ann", "x", 0), ("answer", "ann", "y", 0)])
# Point 42: one crossing, but a move at its second answer is not enough.
MORE_GRADES = Log(["x", "y"], 2, [("ann", "rises")], [
    ("answer", "ann", "y", 2), ("answer", "ann", "x", 1), ("answer", "ann", "y", 0), ("answer", "ann", "x", 1)])
RING = Log(["x"], 1, [("j", "rises"), ("k", "stays")], [("answer", "j", "x", 0), ("answer", "j", "x", 1)])


def literal_places(log):
    """Point 40."""
    given = answers(log)
    return [place for place in given if dict(log.judges)[log.events[place][1]] != "stays"
            and any(other < place and of_one_stretch(log, other, place) for other in given)]


def literal_crossings(log, judge):
    """Point 41."""
    given = [place for place in answers(log) if log.events[place][1] == judge]
    found = []
    for i, j in combinations(given, 2):
        between = [k for k in given if i < k < j and log.events[k][2] == log.events[i][2]]
        if (of_one_stretch(log, i, j) and log.events[i][2] == log.events[j][2] and log.events[i][3] != log.events[j][3]
                and not between):
            found.append((i, j))
    return sorted(found, key=lambda crossing: crossing[1])


class Places(unittest.TestCase):
    def test_places_for_moves(self):
        self.assertEqual(move_places(plain_log()), [2, 6, 8])
        self.assertEqual(move_places(Log(["x"], 1, [("j", "rises")], [])), [])
        for log in random_logs(101, 120, most_events=14):
            before = parts_of(log)
            self.assertEqual(move_places(log), literal_places(log))
            self.assertEqual(parts_of(log), before)

    def test_are_enough(self):
        for places, answer in (([], False), ([2], True), ([1], False), ([3], False), ([1, 3], True), ([3, 1, 3], True),
                               ([0], False), ([0, 2], True), ([1, 2, 3], True)):
            before = list(places)
            self.assertIs(are_enough(TURNS, places), answer)
            self.assertEqual(places, before)

    def test_invalid_places(self):
        log = plain_log()
        for places, place in (([0, 3], 3), ([7, -1], 7), ([-1, 7], -1), ([2, 6, 11], 11), ([10 ** 30], 10 ** 30)):
            self.assertEqual(raised(are_enough, log, places), (InvalidPlace, place))
        self.assertEqual(raised(are_enough, RING, [2]), (InvalidPlace, 2))

    def test_what_is_no_place_for_moves_changes_nothing(self):
        for log in random_logs(102, 80):
            places = literal_places(log)
            others = [place for place in answers(log) if place not in places]
            for lot in parts_of_list(places)[:40]:
                self.assertIs(are_enough(log, others + lot + others), are_enough(log, lot))

    def test_small_logs(self):
        counts = {True: 0, False: 0}
        for log in explained_logs(103, 50, most_events=7) + moving_logs(117, 50, most_events=7):
            for lot in parts_of_list(literal_places(log))[:20]:
                enough = LiteralCase(log, moves=lot).is_explained()
                counts[enough] += 1
                self.assertIs(are_enough(log, lot), enough)
        self.assertGreater(min(counts.values()), 40)

    def test_of_a_contradictory_log_nothing_is_enough(self):
        for log in contradictory_logs(104, 20):
            self.assertIs(are_enough(log, log.answers()), False)


class Crossings(unittest.TestCase):
    def test_of_each_drift(self):
        rows = [("x", 2), ("y", 1), ("x", 2), ("x", 0), ("y", 2), None, ("x", 1), ("y", 0), ("x", 0), ("x", 1)]
        events = [("reset", "j") if row is None else ("answer", "j", *row) for row in rows]
        for drift in ("rises", "falls", "stays"):
            log = Log(["x", "y"], 2, [("j", drift), ("k", "rises")], events)
            self.assertEqual(crossings(log, "j"), [(2, 3), (1, 4), (6, 8), (8, 9)])
            self.assertEqual(crossings_apart(log, "j"), [(2, 3), (6, 8), (8, 9)])
            self.assertEqual((crossings(log, "k"), crossings_apart(log, "k")), ([], []))

    def test_that_overlap(self):
        log = Log(["x", "y", "z"], 1, [("j", "falls")], [
            ("answer", "j", item, grade) for item, grade in (("x", 0), ("y", 0), ("z", 0), ("x", 1), ("z", 1), ("z", 0),
                                                             ("y", 1), ("x", 0))])
        self.assertEqual(crossings(log, "j"), [(0, 3), (2, 4), (4, 5), (1, 6), (3, 7)])
        self.assertEqual(crossings_apart(log, "j"), [(0, 3), (4, 5)])

    def test_small_logs(self):
        for log in random_logs(105, 150, most_events=16) + [plain_log()]:
            before = parts_of(log)
            for judge, _ in log.judges:
                told = literal_crossings(log, judge)
                self.assertEqual(crossings(log, judge), told)
                apart = []
                for i, j in told:
                    if not apart or i >= apart[-1][1]:
                        apart.append((i, j))
                self.assertEqual(crossings_apart(log, judge), apart)
            self.assertEqual(parts_of(log), before)

    def test_whatever_is_enough_has_a_place_in_each(self):
        for log in explained_logs(106, 60, most_events=8) + moving_logs(116, 60, most_events=8):
            for lot in parts_of_list(literal_places(log)):
                if are_enough(log, lot):
                    for judge, drift in log.judges:
                        if drift != "stays":
                            own = [place for place in lot if log.events[place][1] == judge]
                            for i, j in crossings(log, judge):
                                self.assertTrue(any(i < place <= j for place in own))
                            self.assertGreaterEqual(len(own), len(crossings_apart(log, judge)))

    def test_unknown_judges(self):
        for call in (crossings, crossings_apart, fewest_moves):
            for judge in ("bob", "x", ""):
                self.assertEqual(raised(call, TURNS, judge), (UnknownJudge, judge))


class FewestMoves(unittest.TestCase):
    def test_single(self):
        self.assertEqual(fewest_moves(TURNS, "ann"), ([2], [(0, 2)]))
        log = Log(["x", "y"], 1, [("ann", "falls"), ("bob", "stays")], TURNS.backwards().events)
        self.assertEqual(fewest_moves(log, "ann"), ([2], [(0, 2)]))
        self.assertEqual(fewest_moves(Log(["x"], 1, [("j", "rises")], []), "j"), ([], []))

    def test_errors_in_their_order(self):
        ring = [("answer", "j", "x", 0), ("answer", "j", "x", 1)]
        for grades, drift, told in ((2, "stays", (InvalidDrift,)), (1, "stays", (InvalidDrift,)),
                                    (2, "rises", (NotYesAndNo,)), (2, "falls", (NotYesAndNo,)),
                                    (1, "rises", (Unexplained,)), (1, "falls", None)):
            log = Log(["x"], grades, [("j", drift)], ring)
            self.assertEqual(raised(fewest_moves, log, "j"), told)
            self.assertEqual(raised(fewest_moves, log, "k"), (UnknownJudge, "k"))
        self.assertEqual(raised(fewest_moves, MORE_GRADES, "ann"), (NotYesAndNo,))

    def test_rings_of_others_and_of_several_links_do_not_matter(self):
        log = Log(["x", "y"], 1, [("j", "rises"), ("k", "rises")], [
            ("answer", "k", "x", 0), ("answer", "k", "x", 1), ("answer", "j", "x", 0), ("answer", "j", "y", 1),
            ("reset", "j"), ("answer", "j", "y", 0), ("answer", "j", "x", 1), ("answer", "j", "x", 0)])
        self.assertTrue(contradicts(log))
        self.assertEqual(raised(fewest_moves, log, "k"), (Unexplained,))
        self.assertEqual(fewest_moves(log, "j"), ([7], [(6, 7)]))

    def test_enough_for_each_stretch_alone_and_no_fewer_are(self):
        tried = 0
        for log in yes_and_no_logs(107, 400, most_events=10):
            own = [place for place in log.answers() if log.events[place][1] == "j"]
            drift = log.drift_of("j")
            selves = any(of_one_stretch(log, i, j) and log.events[i][2] == log.events[j][2]
                         and log.events[i][3] == (0 if drift == "rises" else 1)
                         and log.events[j][3] != log.events[i][3] for i, j in combinations(own, 2))
            if selves:
                self.assertEqual(raised(fewest_moves, log, "j"), (Unexplained,))
                continue
            moves, apart = fewest_moves(log, "j")
            self.assertEqual(apart, crossings_apart(log, "j"))
            self.assertEqual(moves, [j for _, j in apart])
            tried += len(moves)
            stretches = [[place for place in own if of_one_stretch(log, place, first)] for first in own]
            struck = [[place for place in log.answers() if place not in stretch] for stretch in stretches]

            def is_enough(lot):
                return all(Case(log, struck=others, moves=lot).ring() is None for others in struck)

            self.assertTrue(is_enough(moves))
            for lot in parts_of_list(own):
                if len(lot) < len(moves):
                    self.assertFalse(is_enough(lot))
        self.assertGreater(tried, 60)

    def test_with_more_grades_it_is_not_so(self):
        self.assertEqual(crossings(MORE_GRADES, "ann"), [(0, 2)])
        self.assertIs(are_enough(MORE_GRADES, [2]), False)
        self.assertEqual(least_moves(MORE_GRADES), [[1]])


class RingsForMoves(unittest.TestCase):
    def test_single(self):
        self.assertEqual(rings_for_moves(TURNS), [[(2, 0)]])
        self.assertEqual(rings_for_moves(MORE_GRADES), [[(2, 0)]])
        self.assertEqual(rings_for_moves(plain_log().only([0, 2])), [])

    def test_one_by_one(self):
        log = Log(["x"], 3, [("j", "rises")], [("answer", "j", "x", grade) for grade in (3, 2, 2, 1, 0)])
        self.assertEqual(rings_for_moves(log), [[(1, 0)], [(3, 1)], [(4, 3)]])
        log = Log(["x"], 3, [("j", "falls")], log.backwards().events)
        self.assertEqual(rings_for_moves(log), [[(0, 1)], [(1, 2)], [(2, 4)]])

    def test_as_the_point_makes_them(self):
        several = 0
        for log in random_logs(108, 100, most_events=9) + moving_logs(113, 200):
            before = parts_of(log)
            if contradicts(log):
                self.assertEqual(raised(rings_for_moves, log), (Unexplained,))
                continue
            rings, held = [], []
            ring = LiteralCase(log, moves=[]).ring()
            while ring is not None:
                rings.append(ring)
                case = LiteralCase(log, moves=held)
                more = [place for place in answers(log) if any(
                    not case.in_order(one, other) and log.events[place][1] == log.events[one][1]
                    and min(one, other) < place <= max(one, other) for one, other in ring)]
                # No place serves two of them.
                self.assertFalse(set(more) & set(held))
                self.assertTrue(more)
                held = held + more
                ring = LiteralCase(log, moves=held).ring()
            self.assertEqual(rings_for_moves(log), rings)
            self.assertIs(are_enough(log, held), True)
            several += len(rings) > 1
            self.assertEqual(parts_of(log), before)
        self.assertGreater(several, 20)

    def test_whatever_is_enough_has_as_many_places(self):
        for log in explained_logs(109, 50, most_events=8) + moving_logs(114, 60):
            many = len(rings_for_moves(log))
            for lot in least_moves(log):
                self.assertGreaterEqual(len(lot), many)

    def test_unexplained(self):
        for log in contradictory_logs(110, 20) + [RING]:
            self.assertEqual(raised(rings_for_moves, log), (Unexplained,))


class LeastMoves(unittest.TestCase):
    def test_single(self):
        self.assertEqual(least_moves(TURNS), [[2], [1, 3]])
        self.assertEqual(least_moves(TURNS, judge="ann"), [[2], [1, 3]])
        self.assertEqual(least_moves(RING), [])
        self.assertEqual(least_moves(RING, judge="k"), [[]])
        self.assertEqual(least_moves(Log(["x"], 1, [("j", "stays")], [])), [[]])
        log = Log(["x"], 1, [("j", "stays")], [("answer", "j", "x", 0), ("answer", "j", "x", 1)])
        self.assertEqual((least_moves(log), least_moves(log, judge="j")), ([], []))

    def test_all_lists_of_places(self):
        several = 0
        for log in (random_logs(111, 50, most_events=8) + yes_and_no_logs(112, 30, most_events=8)
                    + moving_logs(115, 60, most_events=8)):
            before = parts_of(log)
            places = literal_places(log)
            told = least_moves(log)
            self.assertEqual(told, literal_least(places, lambda lot: LiteralCase(log, moves=lot).is_explained()))
            several += len(told) > 1
            for lot in parts_of_list(places):
                self.assertIs(are_enough(log, lot), any(set(least) <= set(lot) for least in told))
            for judge, _ in log.judges:
                struck = [place for place in answers(log) if log.events[place][1] != judge]
                own = [place for place in places if place not in struck]
                self.assertEqual(least_moves(log, judge=judge), literal_least(
                    own, lambda lot: LiteralCase(log, struck=struck, moves=lot).is_explained()))
            self.assertEqual(parts_of(log), before)
        self.assertGreater(several, 10)

    def test_unknown_judge(self):
        full = Log(["x"], 1, [("j", "rises")], [("answer", "j", "x", 0)] * 120)
        for log in (TURNS, RING, full):
            self.assertEqual(raised(least_moves, log, judge="bob"), (UnknownJudge, "bob"))

    def test_10_places(self):
        for drift in ("rises", "falls"):
            log = Log(["x", "y"], 1, [("j", drift), ("k", "rises")], [("answer", "j", "x", 0)] * 11
                      + [("reset", "j"), ("answer", "j", "x", 0)])
            self.assertEqual(least_moves(log), [[]])
            more = log.with_event(("answer", "j", "x", 0))
            self.assertEqual(raised(least_moves, more), (TooLarge,))
            self.assertEqual(raised(least_moves, more, judge="j"), (TooLarge,))
            self.assertEqual(least_moves(more, judge="k"), [[]])
            other = log.with_event(("answer", "k", "x", 0)).with_event(("answer", "k", "x", 0))
            self.assertEqual(raised(least_moves, other), (TooLarge,))
            self.assertEqual(least_moves(other, judge="j"), [[]])

    def test_40_answers(self):
        log = Log(["x", "y"], 1, [("j", "stays"), ("k", "rises")], [("answer", "j", "x", 0), ("reset", "k")] * 40)
        self.assertEqual((least_moves(log), least_moves(log, judge="j")), ([[]], [[]]))
        more = log.with_event(("answer", "j", "x", 0))
        self.assertEqual(raised(least_moves, more), (TooLarge,))
        self.assertEqual(raised(least_moves, more, judge="j"), (TooLarge,))
        other = log.with_event(("answer", "k", "x", 0))
        self.assertEqual(raised(least_moves, other), (TooLarge,))
        self.assertEqual((least_moves(other, judge="j"), least_moves(other, judge="k")), ([[]], [[]]))

    def test_10_places_of_40_answers(self):
        events = [("answer", "j", "x", 9 - at) for at in range(10)] + [("answer", "j", "x", 0)]
        events += [("answer", "k", "y", 3)] * 29
        log = Log(["x", "y"], 9, [("j", "rises"), ("k", "stays")], events)
        self.assertEqual(least_moves(log), [[1, 2, 3, 4, 5, 6, 7, 8, 9]])
        self.assertEqual(least_moves(log, judge="k"), [[]])

    def test_new_each_time(self):
        calls = [lambda: move_places(TURNS), lambda: crossings(TURNS, "ann"), lambda: crossings_apart(TURNS, "ann"),
                 lambda: fewest_moves(TURNS, "ann")[0], lambda: fewest_moves(TURNS, "ann")[1],
                 lambda: rings_for_moves(TURNS), lambda: least_moves(TURNS)]
        for call in calls:
            before = [list(part) if isinstance(part, list) else part for part in call()]
            for part in call():
                if isinstance(part, list):
                    part.clear()
            call().clear()
            self.assertEqual(call(), before)
            self.assertTrue(before)


if __name__ == "__main__":
    unittest.main()
