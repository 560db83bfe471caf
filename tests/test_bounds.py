"""Logs at the bounds: each function answers within a few seconds."""

import unittest

from bounds import ITEMS, Quick, logs_of_bounds
from helpers import log_of_chains
from risingbars import cases, explain, grades, late, moves, pairs, same, sorting
from risingbars.cases import Case
from risingbars.errors import TooLarge
from risingbars.logs import Log


class Bounds(Quick):
    def test_logs(self):
        explained = 0
        for key, log in logs_of_bounds().items():
            with self.subTest(key=key):
                is_explained = self.assert_quick(explain.ring_of, log) is None
                explained += is_explained
                self.assert_explained_or_not(
                    [explain.depths_of, pairs.sure_pairs, pairs.open_pairs, pairs.best_items, pairs.worst_items,
                     pairs.order_count, pairs.single_count, grades.forecast, sorting.class_count, sorting.longest_way,
                     sorting.widest, moves.rings_for_moves, lambda told: sorting.sorting_count(told, 30),
                     lambda told: sorting.sort_items(told, 30), lambda told: sorting.sorting_at(told, 30, "i3", 9),
                     lambda told: pairs.places_of(told, "i3"), lambda told: pairs.order_at(told, "i3", 4),
                     lambda told: pairs.may_be(told, "i3", "i4"),
                     lambda told: pairs.order_saying(told, "i3", "i4", "alike"),
                     lambda told: grades.grade_range(told, "j0", 60, "i3"),
                     lambda told: grades.possible_grades(told, "j0", 60, "i3"),
                     lambda told: grades.order_with(told, "j0", 60, "i3", 4)], log, is_explained)
                self.assert_checks(log, is_explained)
                self.assert_sameness(log)
                self.assert_cases(log)
                if key[0] in ("up", "any"):
                    self.assert_late(log.beginning(117))
        self.assertGreater(explained, 3)
        self.assertLess(explained, 13)

    def assert_checks(self, log, is_explained):
        told = self.assert_quick(explain.explanation, log)
        self.assertEqual(told is not None, is_explained)
        self.assertIs(self.assert_quick(explain.explains, log, {item: at for at, item in enumerate(ITEMS)}),
                      is_explained and explain.explains(log, {item: at for at, item in enumerate(ITEMS)}))
        if is_explained:
            self.assertIs(self.assert_quick(explain.check_explanation, log, told), True)
            lost = ("j0", 60, "i3")
            self.assertIs(self.assert_quick(grades.check_range, log, *lost, grades.grade_range(log, *lost)), True)
            self.assertIs(self.assert_quick(sorting.check_widest, log, *sorting.widest(log)), True)
            order = pairs.order_of(log, told.qualities)
            self.assertIs(self.assert_quick(pairs.explains_order, log, order), True)
            least, greatest = self.assert_quick(grades.answer_range, log, 60)
            self.assertIn(log.grade_at(60), range(least, greatest + 1))

    def assert_sameness(self, log):
        outer = log.only(self.assert_quick(same.outer_answers, log))
        self.assertIs(self.assert_quick(same.say_same, log, outer), True)
        self.assertIsNone(self.assert_quick(same.parting_qualities, outer, log))
        thinned = self.assert_quick(same.thinned, log)
        self.assertIs(same.says_all(thinned, log), True)
        self.assertEqual(self.assert_quick(same.needless_answers, thinned), [])
        self.assert_quick(same.needless_answers, log)

    def assert_cases(self, log):
        for changes in ({}, {"moves": []}, {"moves": log.answers()[::7], "struck": log.answers()[::9]},
                        {"drifts": {"j0": "stays", "j1": "falls"}, "resets": log.answers()[::10]}):
            case = self.assert_quick(Case, log, **changes)
            ring = self.assert_quick(case.ring)
            told = self.assert_quick(case.explanation)
            self.assertEqual(ring is None, told is not None)
            self.assert_quick(case.way_between, "i3", "i7")
            if told is not None:
                self.assertIs(self.assert_quick(case.explains, *told), True)
        for judge in ("j0", "j7"):
            self.assert_quick(moves.crossings, log, judge)
            self.assert_quick(moves.crossings_apart, log, judge)
        self.assertIs(self.assert_quick(moves.are_enough, log, log.answers()), explain.ring_of(log) is None)

    def assert_late(self, log):
        lates = [("j0", "i3", 4, 0, 24), ("j0", "i9", 5, 50, 59), ("j1", "i9", 2, 80, 81)]
        self.assertEqual(len(self.assert_quick(late.choices_of, log, lates)), 500)
        possible = self.assert_quick(late.possible_choices, log, lates)
        self.assertEqual(self.assert_quick(late.sure_with, log, lates) is None, possible == [])
        self.assert_quick(late.places_left, log, lates, 1)
        paper = self.assert_quick(late.late_paper, log, lates, "i3", "i9")
        if paper is not None:
            self.assertIs(self.assert_quick(late.check_late, log, lates, "i3", "i9", paper), True)

    def test_1000_closed_lots(self):
        for lengths in ((9, 3, 4, 4), (1, 1, 1, 4, 4, 4)):
            log = log_of_chains(*lengths)
            for call in (pairs.order_count, pairs.single_count, lambda told: sorting.sorting_count(told, 30)):
                self.assertGreater(self.assert_quick(call, log), 0)

    def test_too_many_closed_lots(self):
        for log in (Log(ITEMS, 9, [("j", "rises")], []), log_of_chains(10, 10).with_event(("reset", "j"))):
            for call in (pairs.order_count, pairs.single_count, lambda told: sorting.sorting_count(told, 30)):
                told = self.assert_quick(call, log)
                self.assertEqual(told == (TooLarge,), len(log.events) == 0)

    def test_10_places_of_40_answers(self):
        events = [("answer", "j0", ITEMS[at % 5], 9) for at in range(5)]
        events += [("answer", "j0", ITEMS[at % 5], 8 - at) for at in range(6)]
        events += [event for at in range(29) for event in (("answer", "j1", ITEMS[at % 20], at % 20 // 2),
                                                           ("reset", "j2"), ("reset", "j3"))]
        log = Log(ITEMS, 9, [("j0", "rises"), ("j1", "stays"), ("j2", "falls"), ("j3", "rises")], events)
        self.assertEqual((len(moves.move_places(log)), len(log.answers())), (10, 40))
        self.assert_quick(moves.least_moves, log)
        for judge in ("j0", "j1", "j2"):
            self.assert_quick(moves.least_moves, log, judge=judge)
        events = [("answer", "j0", "i0", max(9 - at, 0)) for at in range(11)]
        events += [("answer", "j1", ITEMS[at % 20], at % 20 // 2) for at in range(29)]
        log = Log(ITEMS, 9, [("j0", "rises"), ("j1", "stays")], events)
        self.assertEqual(self.assert_quick(moves.least_moves, log), [[1, 2, 3, 4, 5, 6, 7, 8, 9]])

    def test_yes_and_no(self):
        log = Log(ITEMS, 1, [("j", "rises")], [("answer", "j", ITEMS[at % 20], 1 - at // 20 % 2) for at in range(40)])
        self.assertEqual(self.assert_quick(moves.fewest_moves, log, "j"), ([20], [(0, 20)]))
        self.assertEqual(cases.Case(log, moves=[20]).ring(), None)


if __name__ == "__main__":
    unittest.main()
