"""Points 9, 28, 29 and 34: the possible grades of lost and coming answers, and their papers."""

import unittest

import helpers
from helpers import contradictory_logs, explained_by, explained_logs, explaining_orders, parts_of, raised
from risingbars.errors import InvalidPlace, TooLarge, Unexplained, UnknownItem, UnknownJudge
from risingbars.explain import depths_of
from risingbars.grades import GradeRange, answer_range, check_range, forecast, grade_range, order_with
from risingbars.grades import possible_grades
from risingbars.logs import Log

EXAMPLE = Log(["x", "y", "z"], 1, [("j", "rises")], [("answer", "j", "x", 0), ("answer", "j", "y", 1)])
RING = Log(["x", "y"], 1, [("j", "rises")], [("answer", "j", "x", 0), ("reset", "j"), ("answer", "j", "x", 0),
                                             ("answer", "j", "x", 1)])
# x is below y and y below z, by k; j says 4 of y in the middle.
MIDDLE = Log(["x", "y", "z"], 9, [("j", "rises"), ("k", "stays")], [
    ("answer", "k", "x", 0), ("answer", "k", "y", 1), ("answer", "k", "z", 2),
    ("answer", "j", "y", 6), ("answer", "j", "y", 4), ("answer", "j", "x", 2)])


def with_answer(log, place, event):
    events = log.events
    events.insert(place, event)
    return Log(log.item_names, log.grades, log.judges, events)


def lost_answers(log):
    return [(judge, place, item) for judge, _ in log.judges for place in range(len(log.events) + 1)
            for item in log.item_names]


def literal_grades(log, judge, place, item):
    """The grades with which the log with the answer is explained."""
    return [grade for grade in range(log.grades + 1)
            if not helpers.contradicts(with_answer(log, place, ("answer", judge, item, grade)))]


def full_log():
    """120 events, of which all but four are resets of another judge; and where the four stand."""
    events = [("reset", "k")] * 116
    for place, event in ((10, ("answer", "j", "x", 1)), (20, ("answer", "j", "y", 3)), (30, ("answer", "j", "y", 2)),
                         (40, ("answer", "k", "x", 2))):
        events.insert(place, event)
    return Log(["x", "y", "z"], 4, [("j", "rises"), ("k", "stays")], events)


class Example(unittest.TestCase):
    def test_of_the_interface(self):
        told = grade_range(EXAMPLE, "j", 1, "y")
        self.assertEqual((told.least, told.greatest, told.above, told.below), (1, 1, (1, []), None))
        self.assertEqual(forecast(EXAMPLE), {'j': {'x': (0, 0), 'y': (0, 1), 'z': (0, 1)}})


class PossibleGrades(unittest.TestCase):
    def test_small_logs(self):
        for log in explained_logs(51, 60, most_events=7):
            before = parts_of(log)
            for lost in lost_answers(log):
                can = literal_grades(log, *lost)
                self.assertEqual(possible_grades(log, *lost), can)
                told = grade_range(log, *lost)
                self.assertEqual(list(range(told.least, told.greatest + 1)), can)
                self.assertIs(check_range(log, *lost, told), True)
                for grade in range(log.grades + 1):
                    order = order_with(log, *lost, grade)
                    self.assertEqual(order is None, grade not in can)
                    if order is not None:
                        judge, place, item = lost
                        more = with_answer(log, place, ("answer", judge, item, grade))
                        self.assertIn(order, explaining_orders(more))
                        number = {name: at for at, step in enumerate(order) for name in step}
                        self.assertTrue(explained_by(more, number))
            self.assertEqual(parts_of(log), before)

    def test_drifts(self):
        rows = [("answer", "j", "x", 1), ("answer", "j", "x", 3), ("reset", "j"), ("answer", "j", "x", 0)]
        log = Log(["x", "y"], 4, [("j", "falls")], rows)
        self.assertEqual([possible_grades(log, "j", place, "x") for place in range(5)],
                         [[0, 1], [1, 2, 3], [3, 4], [0], [0, 1, 2, 3, 4]])
        log = Log(["x", "y"], 4, [("j", "rises")], [rows[1], rows[0]] + rows[2:])
        self.assertEqual([possible_grades(log, "j", place, "x") for place in range(5)],
                         [[3, 4], [1, 2, 3], [0, 1], [0, 1, 2, 3, 4], [0]])
        log = Log(["x", "y"], 4, [("j", "stays")], [rows[1]] + rows[2:])
        self.assertEqual([possible_grades(log, "j", place, "x") for place in range(4)], [[3], [3], [0], [0]])
        self.assertEqual(possible_grades(log, "j", 0, "y"), [0, 1, 2, 3, 4])

    def test_what_is_surely_worse_or_better(self):
        self.assertEqual(possible_grades(MIDDLE, "j", 4, "x"), [2, 3, 4, 5, 6])
        self.assertEqual(possible_grades(MIDDLE, "j", 4, "y"), [4, 5, 6])
        self.assertEqual(possible_grades(MIDDLE, "j", 4, "z"), [4, 5, 6, 7, 8, 9])
        self.assertEqual(possible_grades(MIDDLE, "j", 6, "x"), [0, 1, 2])
        self.assertEqual(possible_grades(MIDDLE, "j", 0, "z"), [6, 7, 8, 9])

    def test_120_events(self):
        log = full_log()
        self.assertEqual(len(log.events), 120)
        fewer = log.without_event(119)
        for judge in "jk":
            for item in "xyz":
                for place in (0, 5, 10, 11, 20, 21, 30, 31, 40, 41, 119, 120):
                    can = literal_grades(fewer, judge, min(place, 119), item)
                    self.assertEqual(possible_grades(log, judge, place, item), can)
                    told = grade_range(log, judge, place, item)
                    self.assertEqual(list(range(told.least, told.greatest + 1)), can)
                    self.assertIs(check_range(log, judge, place, item, told), True)
                    for grade in (0, 2, 4):
                        self.assertEqual(raised(order_with, log, judge, place, item, grade), (TooLarge,))
        self.assertIsNotNone(order_with(fewer, "j", 119, "y", 0))
        self.assertEqual(forecast(log)["j"], {"x": (0, 1), "y": (0, 2), "z": (0, 4)})
        self.assertEqual(answer_range(log, 20), (2, 4))

    def test_order_with_just_the_possible_grades(self):
        self.assertIsNone(order_with(EXAMPLE, "j", 1, "y", 0))
        self.assertEqual(order_with(EXAMPLE, "j", 1, "y", 1), [["x", "z"], ["y"]])
        self.assertIsNone(order_with(EXAMPLE, "j", 2, "x", 1))


class Papers(unittest.TestCase):
    def setUp(self):
        self.log = MIDDLE
        self.told = grade_range(MIDDLE, "j", 4, "z")

    def check(self, item="z", place=4, **changes):
        told = GradeRange(self.told.least, self.told.greatest, self.told.above, self.told.below)
        for name, value in changes.items():
            setattr(told, name, value)
        before = (told.least, told.greatest, told.above, told.below)
        answer = check_range(self.log, "j", place, item, told)
        self.assertEqual((told.least, told.greatest, told.above, told.below), before)
        return answer

    def test_none(self):
        self.assertEqual((self.told.least, self.told.greatest), (4, 9))
        self.assertEqual((self.told.above, self.told.below), ((4, [(1, 2)]), None))
        self.assertIs(self.check(), True)
        self.assertIs(self.check(above=None), False)
        self.assertIs(self.check(above=None, least=0), True)
        self.assertIs(self.check(greatest=8), False)
        self.assertIs(self.check(greatest=0), False)

    def test_above(self):
        self.assertIs(self.check(above=(4, [(0, 2)])), False)
        self.assertIs(self.check(above=(5, [(0, 2)])), False)
        self.assertIs(self.check(above=(5, [(0, 2)]), least=2), True)
        self.assertIs(self.check(above=(5, [(0, 1), (1, 2)]), least=2), True)
        self.assertIs(self.check(above=(5, [(0, 1)]), least=2), False)
        for least in (0, 3, 5, 9):
            self.assertIs(self.check(least=least), False)
        for way in ([], [(1, 2), (1, 2)], [(2, 1)], [(1, 1)], [(-5, 2)], [(1, 99)], [(0, 1)], [(1, 2), (2, 2)]):
            self.assertIs(self.check(above=(4, way)), False)
        # The answer at 3 stands ahead of the lost one, those of k are none of its judge, and 6 is no place.
        for at in (3, 2, 1, 0, 5, 6, -1, -2, 10 ** 9):
            self.assertIs(self.check(above=(at, [(1, 2)])), False)
        self.assertIs(self.check(above=(3, [(1, 2)]), least=6), False)

    def test_an_answer_of_its_own_item_has_no_way(self):
        self.told = grade_range(MIDDLE, "j", 4, "y")
        self.assertEqual((self.told.above, self.told.below), ((4, []), (3, [])))
        self.assertIs(self.check(item="y"), True)
        self.assertIs(self.check(item="y", above=(4, [(1, 2)])), False)
        self.assertIs(self.check(item="y", below=(3, [(1, 2)])), False)
        self.assertIs(self.check(item="y", above=(3, []), below=(4, [])), False)
        self.assertIs(self.check(item="y", above=(3, []), least=6), False)
        self.assertIs(self.check(item="y", below=(4, []), greatest=4), False)
        self.assertIs(self.check(item="y", below=None), False)
        self.assertIs(self.check(item="y", below=None, greatest=9), True)

    def test_below(self):
        self.told = grade_range(MIDDLE, "j", 5, "x")
        self.assertEqual((self.told.least, self.told.greatest), (2, 4))
        self.assertEqual((self.told.above, self.told.below), ((5, []), (4, [(0, 1)])))
        self.assertIs(self.check(item="x", place=5), True)
        self.assertIs(self.check(item="x", place=5, below=(3, [(0, 1)]), greatest=6), True)
        self.assertIs(self.check(item="x", place=5, below=(3, [(0, 1)])), False)
        self.assertIs(self.check(item="x", place=5, below=None), False)
        for way in ([], [(1, 0)], [(0, 2)], [(0, 1), (0, 1)], [(0, 7)]):
            self.assertIs(self.check(item="x", place=5, below=(4, way)), False)
        for greatest in (3, 5, 9):
            self.assertIs(self.check(item="x", place=5, greatest=greatest), False)
        # With another place the answers stand on the other side.
        self.assertIs(self.check(item="x", place=6), False)
        self.assertIs(self.check(item="x", place=4), False)

    def test_resets_part(self):
        log = MIDDLE.with_event_at(4, ("reset", "j"))
        told = grade_range(log, "j", 4, "y")
        self.assertEqual((told.least, told.greatest, told.above, told.below), (0, 6, None, (3, [])))
        self.assertIs(check_range(log, "j", 4, "y", told), True)
        self.assertIs(check_range(log, "j", 4, "y", GradeRange(4, 6, (5, []), (3, []))), False)
        self.assertIs(check_range(log, "j", 5, "y", GradeRange(4, 9, (5, []), None)), True)

    def test_no_other_end_has_papers(self):
        for log in explained_logs(52, 25, most_events=5):
            places = list(range(-1, len(log.events) + 1))
            ways = [[]] + [[link] for link in helpers.links(log)]
            papers = [None] + [(at, way) for at in places for way in ways]
            for judge, place, item in lost_answers(log):
                can = literal_grades(log, judge, place, item)
                for paper in papers:
                    for grade in range(log.grades + 1):
                        told = grade_range(log, judge, place, item)
                        told.least, told.above = grade, paper
                        if check_range(log, judge, place, item, told):
                            self.assertLessEqual(grade, can[0])
                        told = grade_range(log, judge, place, item)
                        told.greatest, told.below = grade, paper
                        if check_range(log, judge, place, item, told):
                            self.assertGreaterEqual(grade, can[-1])

    def test_copies(self):
        above = (0, [(0, 1)])
        below = (1, [(1, 2)])
        told = GradeRange(1, 2, above, below)
        above[1].append((5, 6))
        below[1].clear()
        self.assertEqual((told.least, told.greatest, told.above, told.below), (1, 2, (0, [(0, 1)]), (1, [(1, 2)])))
        told = grade_range(MIDDLE, "j", 4, "z")
        told.above[1].clear()
        self.assertEqual(grade_range(MIDDLE, "j", 4, "z").above, (4, [(1, 2)]))


class Forecasts(unittest.TestCase):
    def test_all_judges_and_items(self):
        for log in explained_logs(53, 60):
            told = forecast(log)
            self.assertEqual(list(told), [judge for judge, _ in log.judges])
            for judge in told:
                self.assertEqual(list(told[judge]), log.item_names)
                for item in log.item_names:
                    can = literal_grades(log, judge, len(log.events), item)
                    self.assertEqual(told[judge][item], (can[0], can[-1]))

    def test_answers_of_the_log(self):
        for log in explained_logs(54, 80):
            for place in log.answers():
                event = log.events[place]
                can = literal_grades(log.without_event(place), event[1], place, event[2])
                self.assertEqual(answer_range(log, place), (can[0], can[-1]))
                self.assertIn(event[3], can)

    def test_answers_of_contradictory_logs(self):
        explained = 0
        for log in contradictory_logs(55, 60):
            for place in log.answers():
                event = log.events[place]
                rest = log.without_event(place)
                if helpers.contradicts(rest):
                    self.assertEqual(raised(answer_range, log, place), (Unexplained,))
                else:
                    explained += 1
                    can = literal_grades(rest, event[1], place, event[2])
                    self.assertEqual(answer_range(log, place), (can[0], can[-1]))
                    self.assertNotIn(event[3], can)
        self.assertGreater(explained, 20)

    def test_new_each_time(self):
        told = forecast(EXAMPLE)
        told["j"].clear()
        told.clear()
        self.assertEqual(len(forecast(EXAMPLE)["j"]), 3)
        for call in (lambda: possible_grades(EXAMPLE, "j", 1, "x"), lambda: order_with(EXAMPLE, "j", 1, "x", 0)):
            before = list(call())
            call().clear()
            self.assertEqual(call(), before)


class Errors(unittest.TestCase):
    def test_in_their_order(self):
        told = GradeRange(0, 1, None, None)
        calls = [lambda *lost: grade_range(*lost), lambda *lost: check_range(*lost, told),
                 lambda *lost: possible_grades(*lost), lambda *lost: order_with(*lost, 0)]
        for call in calls:
            for log in (EXAMPLE, RING, full_log()):
                many = len(log.events)
                for judge in ("w", "x", ""):
                    self.assertEqual(raised(call, log, judge, -1, "w"), (UnknownJudge, judge))
                for place in (-1, many + 1, -10 ** 9):
                    self.assertEqual(raised(call, log, "j", place, "w"), (InvalidPlace, place))
                for item in ("w", "j", ""):
                    self.assertEqual(raised(call, log, "j", many, item), (UnknownItem, item))
            self.assertEqual(raised(call, RING, "j", 0, "y"), (Unexplained,))
            self.assertEqual(raised(call, RING, "j", 4, "x"), (Unexplained,))

    def test_unexplained_ahead_of_too_large(self):
        log = Log(["x"], 1, [("j", "rises")], [("answer", "j", "x", 0), ("answer", "j", "x", 1)] * 60)
        self.assertEqual(raised(order_with, log, "j", 120, "x", 0), (Unexplained,))
        self.assertEqual(raised(forecast, log), (Unexplained,))

    def test_answer_range(self):
        for place in (1, -1, 4, -4, 10 ** 9):
            self.assertEqual(raised(answer_range, RING, place), (InvalidPlace, place))
        self.assertEqual(raised(answer_range, RING, 0), (Unexplained,))
        self.assertEqual(answer_range(RING, 2), (1, 1))
        self.assertEqual(answer_range(RING, 3), (0, 0))

    def test_unexplained(self):
        for log in contradictory_logs(56, 20) + [RING]:
            self.assertEqual(raised(forecast, log), (Unexplained,))
            self.assertEqual(raised(depths_of, log), (Unexplained,))
            for judge, place, item in lost_answers(log)[:6]:
                self.assertEqual(raised(grade_range, log, judge, place, item), (Unexplained,))
                self.assertEqual(raised(possible_grades, log, judge, place, item), (Unexplained,))
                self.assertEqual(raised(order_with, log, judge, place, item, 0), (Unexplained,))
                self.assertEqual(raised(check_range, log, judge, place, item, GradeRange(0, log.grades, None, None)),
                                 (Unexplained,))


if __name__ == "__main__":
    unittest.main()
