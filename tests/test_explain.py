"""Points 10, 15, 16, 17, 18 and 19: rings, qualities, bars, depths."""

import unittest
from copy import deepcopy

import helpers
from helpers import all_qualities, contradictory_logs, explained_logs, parts_of, plain_log, raised, random_logs
from risingbars.errors import InvalidPlace, Unexplained
from risingbars.explain import Explanation, check_explanation, depths_of, explains, explanation
from risingbars.explain import high_of, low_of, ring_of
from risingbars.logs import Log

ALL_DRIFTS = Log(["x", "y", "z"], 2, [("r", "rises"), ("f", "falls"), ("s", "stays")], [
    ("answer", "r", "x", 0), ("answer", "f", "x", 1), ("answer", "s", "x", 1), ("answer", "r", "y", 1),
    ("answer", "f", "y", 0), ("answer", "s", "y", 2), ("reset", "r"), ("answer", "r", "z", 2),
    ("reset", "f"), ("answer", "f", "z", 0), ("answer", "s", "z", 0)])


def one_judge(drift, *rows, items=("x", "y", "z"), grades=9):
    """A log of one judge, with an answer for each `(item, grade)` and a reset for each None."""
    events = [("reset", "j") if row is None else ("answer", "j", row[0], row[1]) for row in rows]
    return Log(list(items), grades, [("j", drift)], events)


class Rings(unittest.TestCase):
    def test_none(self):
        self.assertIsNone(ring_of(Log(["x"], 1, [("j", "stays")], [])))
        self.assertIsNone(ring_of(one_judge("rises", ("x", 0), ("y", 1), None, ("x", 5))))
        self.assertIsNone(ring_of(one_judge("rises", ("x", 1), ("x", 0))))

    def test_a_single_link(self):
        log = one_judge("rises", ("y", 0), ("x", 1), ("y", 1), ("x", 2))
        self.assertEqual(ring_of(log), [(0, 2)])
        self.assertEqual(ring_of(one_judge("falls", ("x", 1), ("x", 0))), [(1, 0)])

    def test_shorter_ones_come_first(self):
        log = one_judge("rises", ("x", 0), ("y", 1), None, ("y", 0), ("x", 1), None, ("z", 3), ("z", 4))
        self.assertEqual(ring_of(log), [(6, 7)])
        self.assertEqual(ring_of(log.beginning(6)), [(0, 1), (3, 4)])

    def test_of_one_length_the_least_list(self):
        log = one_judge("falls", ("y", 1), ("z", 0), None, ("z", 1), ("y", 0), None, ("x", 1), ("z", 0))
        # The ring begins with the least link, whichever item comes first in the log.
        self.assertEqual(ring_of(log), [(1, 0), (4, 3)])
        log = one_judge("stays", ("z", 0), ("y", 1), ("z", 2), ("y", 0), ("x", 0), ("x", 1))
        self.assertEqual(ring_of(log), [(0, 2)])

    def test_as_the_document_tells_it(self):
        for log in random_logs(21, 150, most_events=7) + [plain_log()]:
            before = parts_of(log)
            self.assertEqual(ring_of(log), helpers.first_ring(log))
            self.assertEqual(ring_of(log) is None, not helpers.contradicts(log))
            self.assertEqual(parts_of(log), before)

    def test_the_longest_ring(self):
        names = [f"i{number}" for number in range(20)]
        rows = []
        for number in range(20):
            rows += [(names[number], 0), (names[(number + 1) % 20], 1), None]
        self.assertEqual(ring_of(one_judge("rises", *rows, items=names)), [(3 * k, 3 * k + 1) for k in range(20)])


class Depths(unittest.TestCase):
    def test_no_links(self):
        self.assertEqual(depths_of(Log(["y", "x"], 1, [("j", "stays")], [])), {"x": 0, "y": 0})
        self.assertEqual(depths_of(one_judge("stays", ("x", 3), ("y", 3))), {"x": 0, "y": 0, "z": 0})

    def test_longer_ways_count(self):
        log = one_judge("rises", ("x", 0), ("z", 3), None, ("x", 0), ("y", 1), None, ("y", 0), ("z", 1))
        self.assertEqual(depths_of(log), {"x": 0, "y": 1, "z": 2})

    def test_a_way_of_19_links(self):
        names = [f"i{number}" for number in range(20)]
        rows = []
        for number in reversed(range(19)):
            rows += [(names[number], 0), (names[number + 1], 1), None]
        log = one_judge("rises", *rows, items=names)
        self.assertEqual(depths_of(log), {name: at for at, name in enumerate(names)})
        self.assertEqual(raised(depths_of, log.with_event(("answer", "j", "i19", 0)).with_event(
            ("answer", "j", "i0", 1))), (Unexplained,))

    def test_unexplained(self):
        self.assertEqual(raised(depths_of, one_judge("rises", ("x", 0), ("x", 1))), (Unexplained,))

    def test_the_least_qualities_and_exactly_one_of_the_two(self):
        rings = 0
        for log in random_logs(22, 150):
            some = [told for told in all_qualities(log) if helpers.explained_by(log, told)]
            if helpers.contradicts(log):
                rings += 1
                self.assertEqual(some, [])
                self.assertEqual(raised(depths_of, log), (Unexplained,))
                self.assertIsNone(explanation(log))
                self.assertIsNotNone(ring_of(log))
                continue
            depths = depths_of(log)
            self.assertIn(depths, some)
            self.assertIsNone(ring_of(log))
            for told in some:
                self.assertTrue(all(told[item] >= depths[item] for item in depths))
            for worse in depths:
                for better in depths:
                    # Point 19.
                    self.assertEqual(all(told[worse] < told[better] for told in some),
                                     worse in helpers.below(log)[better])
                    self.assertFalse(worse != better and all(told[worse] == told[better] for told in some))
        self.assertGreater(rings, 20)
        self.assertLess(rings, 130)


class LowsAndHighs(unittest.TestCase):
    def test_rises(self):
        log = one_judge("rises", ("x", 1), ("y", 0), ("z", 2), None, ("y", 0), grades=2)
        told = {"x": 5, "y": -3, "z": 10 ** 30}
        self.assertEqual([low_of(log, told, place, 1) for place in (0, 1, 2, 4)], [None, -3, -3, -3])
        self.assertEqual([low_of(log, told, place, 2) for place in (0, 1, 2, 4)], [5, 5, 5, -3])
        self.assertEqual([high_of(log, told, place, 1) for place in (0, 1, 2, 4)], [5, 10 ** 30, 10 ** 30, None])
        self.assertEqual([high_of(log, told, place, 2) for place in (0, 1, 2, 4)], [10 ** 30, 10 ** 30, 10 ** 30, None])

    def test_falls(self):
        log = one_judge("falls", ("x", 1), ("y", 0), ("z", 2), None, ("y", 0), grades=2)
        told = {"x": 5, "y": -3, "z": -10 ** 30}
        self.assertEqual([low_of(log, told, place, 1) for place in (0, 1, 2, 4)], [-3, -3, None, -3])
        self.assertEqual([low_of(log, told, place, 2) for place in (0, 1, 2, 4)], [5, -3, None, -3])
        self.assertEqual([high_of(log, told, place, 1) for place in (0, 1, 2, 4)], [5, 5, -10 ** 30, None])
        self.assertEqual([high_of(log, told, place, 2) for place in (0, 1, 2, 4)], [None, None, -10 ** 30, None])

    def test_stays(self):
        log = one_judge("stays", ("x", 1), ("y", 0), ("z", 2), None, ("y", 0), grades=3)
        told = {"x": 5, "y": -3, "z": 7}
        for place in (0, 1, 2):
            self.assertEqual([low_of(log, told, place, grade) for grade in (1, 2, 3)], [-3, 5, 7])
            self.assertEqual([high_of(log, told, place, grade) for grade in (1, 2, 3)], [5, 7, None])

    def test_places_of_none(self):
        told = {"x": 0, "y": 0, "z": 0}
        for place in (-1, -11, 6, 8, 11, 10 ** 9):
            for call in (low_of, high_of):
                self.assertEqual(raised(call, ALL_DRIFTS, told, place, 1), (InvalidPlace, place))

    def test_as_the_document_tells_it(self):
        for log in random_logs(23, 80) + [ALL_DRIFTS, plain_log()]:
            given = helpers.answers(log)
            told = {item: (-7) ** at * 10 ** 12 for at, item in enumerate(log.item_names)}
            before = dict(told)
            for place in given:
                for grade in range(1, log.grades + 1):
                    lows = [told[item] for other, (item, less) in given.items()
                            if less < grade and helpers.in_order(log, other, place)]
                    highs = [told[item] for other, (item, more) in given.items()
                             if more >= grade and helpers.in_order(log, place, other)]
                    self.assertEqual(low_of(log, told, place, grade), max(lows, default=None))
                    self.assertEqual(high_of(log, told, place, grade), min(highs, default=None))
            self.assertEqual(told, before)

    def test_just_the_bars_between_them(self):
        for log in explained_logs(24, 40, most_events=6):
            told = depths_of(log)
            for place in helpers.answers(log):
                for grade in range(1, log.grades + 1):
                    low = low_of(log, told, place, grade)
                    high = high_of(log, told, place, grade)
                    for bar in range(-2, 6):
                        bars = helpers.raised_bars(log.grades, helpers.answers(log), helpers.ordered_answers(log), told,
                                                   start=(place, grade, bar))
                        can_be = bars is not None and bars[place][grade - 1] == bar
                        between = (low is None or low < bar) and (high is None or bar <= high)
                        self.assertEqual(can_be, between)


class Explains(unittest.TestCase):
    def test_single(self):
        log = one_judge("rises", ("x", 0), ("y", 1))
        for told, answer in (({"x": 0, "y": 1, "z": 0}, True), ({"x": -10 ** 40, "y": -10 ** 40 + 1, "z": 7}, True),
                             ({"x": 1, "y": 1, "z": 0}, False), ({"x": 2, "y": 1, "z": 3}, False)):
            before = dict(told)
            self.assertIs(explains(log, told), answer)
            self.assertEqual(told, before)
        self.assertIs(explains(Log(["x"], 1, [("j", "stays")], []), {"x": -4}), True)
        self.assertIs(explains(one_judge("stays", ("x", 0), ("x", 1)), {"x": 1, "y": 2, "z": 3}), False)

    def test_bars_raised_grade_by_grade(self):
        for log in random_logs(25, 100):
            for told in all_qualities(log):
                self.assertIs(explains(log, told), helpers.explained_by(log, told))

    def test_lows_below_highs(self):
        for log in random_logs(26, 60):
            for told in all_qualities(log):
                fits = True
                for place in helpers.answers(log):
                    for grade in range(1, log.grades + 1):
                        low = low_of(log, told, place, grade)
                        high = high_of(log, told, place, grade)
                        fits = fits and (low is None or high is None or low < high)
                self.assertIs(explains(log, told), fits)


class Explanations(unittest.TestCase):
    def test_least_bars(self):
        log = one_judge("rises", ("x", 0), ("y", 2), None, ("x", 2), items=("x", "y"), grades=3)
        told = explanation(log)
        self.assertIsInstance(told, Explanation)
        self.assertEqual(told.qualities, {"x": 0, "y": 1})
        self.assertEqual(told.bars, {0: [1, 1, 1], 1: [1, 1, 2], 3: [0, 0, 1]})
        self.assertIs(check_explanation(log, told), True)

    def test_no_answers(self):
        told = explanation(Log(["x", "y"], 4, [("j", "falls")], [("reset", "j")]))
        self.assertEqual((told.qualities, told.bars), ({"x": 0, "y": 0}, {}))

    def test_one_more_than_each_low(self):
        for log in explained_logs(27, 60) + [plain_log().only([0, 1, 2, 5])]:
            told = explanation(log)
            self.assertEqual(told.qualities, depths_of(log))
            self.assertEqual(list(told.bars), log.answers())
            for place in log.answers():
                lows = [low_of(log, told.qualities, place, grade) for grade in range(1, log.grades + 1)]
                self.assertEqual(told.bars[place], [0 if low is None else low + 1 for low in lows])
            self.assertIs(check_explanation(log, told), True)

    def test_none_for_a_ring(self):
        for log in contradictory_logs(28, 30):
            self.assertIsNone(explanation(log))

    def test_copies(self):
        qualities = {"x": 1}
        bars = {0: [1, 2], 1: [3, 4]}
        told = Explanation(qualities, bars)
        qualities["y"] = 2
        bars[0].append(9)
        bars[1][0] = 9
        bars.pop(1)
        self.assertEqual((told.qualities, told.bars), ({"x": 1}, {0: [1, 2], 1: [3, 4]}))

    def test_new_each_time(self):
        log = one_judge("rises", ("x", 0), ("y", 2))
        for call in (ring_of, depths_of):
            explained = one_judge("rises", ("x", 0), ("x", 2)) if call is ring_of else log
            before = deepcopy(call(explained))
            call(explained).clear()
            self.assertEqual(call(explained), before)
        told = explanation(log)
        told.qualities.clear()
        told.bars[0].clear()
        told.bars.pop(1)
        self.assertEqual(explanation(log).qualities, {"x": 0, "y": 1, "z": 0})
        self.assertEqual(sorted(explanation(log).bars), [0, 1])
        self.assertEqual(len(explanation(log).bars[0]), 9)


class CheckedExplanations(unittest.TestCase):
    def setUp(self):
        self.log = Log(["x", "y"], 2, [("j", "rises"), ("k", "stays")], [
            ("answer", "j", "x", 0), ("reset", "k"), ("answer", "j", "y", 1), ("answer", "k", "y", 2),
            ("answer", "k", "x", 1)])
        self.qualities = {"x": -3, "y": 4}
        self.bars = {0: [-2, 6], 2: [4, 6], 3: [-5, 2], 4: [-5, 2]}

    def check(self, qualities, bars):
        told = Explanation(qualities, bars)
        answer = check_explanation(self.log, told)
        self.assertEqual((told.qualities, told.bars), (qualities, bars))
        return answer

    def with_bar(self, place, grade, bar):
        bars = deepcopy(self.bars)
        bars[place][grade - 1] = bar
        return bars

    def test_as_it_stands(self):
        self.assertIs(self.check(self.qualities, self.bars), True)
        self.assertIs(self.check(self.qualities, self.with_bar(0, 1, 4)), True)
        self.assertIs(self.check(self.qualities, self.with_bar(2, 2, 10 ** 30)), True)

    def test_too_great_or_too_low_by_one(self):
        for place, grade, bar in ((0, 1, -3), (0, 1, 5), (0, 2, 7), (2, 1, 5), (2, 2, 5), (2, 2, 4), (2, 1, -3)):
            with self.subTest(place=place, grade=grade, bar=bar):
                self.assertIs(self.check(self.qualities, self.with_bar(place, grade, bar)), False)

    def test_bars_of_who_stays_do_not_move(self):
        for place in (3, 4):
            for grade in (1, 2):
                for by in (-1, 1):
                    bars = self.with_bar(place, grade, self.bars[place][grade - 1] + by)
                    self.assertIs(self.check(self.qualities, bars), False)

    def test_bars_that_fall(self):
        log = Log(["x"], 2, [("j", "falls")], [("answer", "j", "x", 0)])
        self.assertIs(check_explanation(log, Explanation({"x": 0}, {0: [3, 3]})), True)
        self.assertIs(check_explanation(log, Explanation({"x": 0}, {0: [3, 2]})), False)
        log = Log(["x"], 2, [("j", "falls")], [("answer", "j", "x", 2)])
        self.assertIs(check_explanation(log, Explanation({"x": 0}, {0: [0, -1]})), False)

    def test_bars_of_who_falls_do_not_rise(self):
        log = Log(["x"], 1, [("j", "falls")], [("answer", "j", "x", 0), ("reset", "j"), ("answer", "j", "x", 0),
                                               ("answer", "j", "x", 0)])
        for bars, answer in (([3, 2, 2], True), ([1, 9, 2], True), ([1, 2, 3], False)):
            told = Explanation({"x": 0}, {place: [bar] for place, bar in zip((0, 2, 3), bars)})
            self.assertIs(check_explanation(log, told), answer)

    def test_bars_too_many_or_too_few(self):
        for place in self.bars:
            for row in ([], self.bars[place][:1], self.bars[place] + [50]):
                bars = deepcopy(self.bars)
                bars[place] = row
                self.assertIs(self.check(self.qualities, bars), False)

    def test_places_and_names(self):
        for place in self.bars:
            bars = deepcopy(self.bars)
            bars.pop(place)
            self.assertIs(self.check(self.qualities, bars), False)
        for place in (-1, 1, 5, 10 ** 9):
            self.assertIs(self.check(self.qualities, {**self.bars, place: [0, 6]}), False)
        for qualities in ({}, {"x": -3}, {"y": 4}, {"x": -3, "y": 4, "z": 0}, {"x": -3, "z": 4}):
            self.assertIs(self.check(qualities, self.bars), False)

    def test_items_that_do_not_stand_in_the_order_of_their_names(self):
        log = one_judge("rises", ("z", 0), ("a", 1), items=("z", "m", "a"), grades=1)
        self.assertIs(check_explanation(log, explanation(log)), True)
        self.assertIs(check_explanation(log, Explanation({"a": 1, "z": 0, "m": 9}, {1: [1], 0: [1]})), True)

    def test_a_log_without_answers(self):
        log = Log(["x"], 1, [("j", "rises")], [("reset", "j")])
        self.assertIs(check_explanation(log, Explanation({"x": 5}, {})), True)
        self.assertIs(check_explanation(log, Explanation({"x": 5}, {0: [5]})), False)
        self.assertIs(check_explanation(log, Explanation({}, {})), False)

    def test_as_the_document_tells_it(self):
        for log in explained_logs(29, 40, most_events=5):
            told = explanation(log)
            given = helpers.answers(log)
            for place in told.bars:
                for at in range(log.grades):
                    for by in (-1, 1):
                        bars = deepcopy(told.bars)
                        bars[place][at] += by
                        fits = all(bars[p] == sorted(bars[p]) and all(
                            (bar <= told.qualities[item]) == (grade >= g) for g, bar in enumerate(bars[p], 1))
                            for p, (item, grade) in given.items())
                        fits = fits and all(low <= high for one, other in helpers.ordered_answers(log)
                                            for low, high in zip(bars[one], bars[other]))
                        self.assertIs(check_explanation(log, Explanation(told.qualities, bars)), fits)

    def test_of_a_ring_nothing_is_one(self):
        log = one_judge("rises", ("x", 0), ("x", 1), items=("x",), grades=1)
        for low in range(-2, 4):
            for high in range(-2, 4):
                self.assertIs(check_explanation(log, Explanation({"x": 0}, {0: [low], 1: [high]})), False)


if __name__ == "__main__":
    unittest.main()
