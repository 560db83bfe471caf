"""Points 4, 5 and 6: the methods of Log that return another log."""

import unittest

from helpers import parts_of, plain_log, random_logs
from risingbars.errors import InvalidDrift, InvalidGrade, InvalidLog, InvalidPlace
from risingbars.errors import NameInUse, NameTaken, TooLarge, UnknownItem, UnknownJudge
from risingbars.logs import Log

ANSWER = ("answer", "ann", "z", 2)


def full_log():
    return Log(["x"], 1, [("j", "rises")], [("answer", "j", "x", 0), ("reset", "j")] * 60)


class ChangedLog(unittest.TestCase):
    def setUp(self):
        self.log = plain_log()

    def tearDown(self):
        self.assertEqual(parts_of(self.log), parts_of(plain_log()))

    def assert_parts(self, log, items=None, judges=None, events=None):
        self.assertIsInstance(log, Log)
        self.assertEqual(log.item_names, self.log.item_names if items is None else items)
        self.assertEqual(log.grades, self.log.grades)
        self.assertEqual(log.judges, self.log.judges if judges is None else judges)
        self.assertEqual(log.events, self.log.events if events is None else events)

    def assert_raises(self, error, told, call, *values):
        """`told` is None or the value of the error's attribute."""
        with self.subTest(values=values):
            with self.assertRaises(error) as caught:
                call(*values)
            if told is not None:
                self.assertEqual(list(vars(caught.exception).values()), [told])


class Events(ChangedLog):
    def test_with_event(self):
        for event in (ANSWER, ("reset", "cid"), ("answer", "bob", "x", 0)):
            self.assert_parts(self.log.with_event(event), events=self.log.events + [event])

    def test_with_event_at(self):
        for place in range(12):
            events = self.log.events
            events.insert(place, ANSWER)
            self.assert_parts(self.log.with_event_at(place, ANSWER), events=events)
        log = self.log.with_event_at(8, ("reset", "bob"))
        self.assertEqual(log.stretches("bob"), [[1], [5], [9]])

    def test_errors_of_an_event(self):
        wrong = [(("answer", "dan", "w", 9), UnknownJudge, "dan"), (("answer", "x", "x", 0), UnknownJudge, "x"),
                 (("reset", "dan"), UnknownJudge, "dan"), (("answer", "ann", "w", 9), UnknownItem, "w"),
                 (("answer", "ann", "ann", -1), UnknownItem, "ann"), (("answer", "ann", "x", -1), InvalidGrade, -1),
                 (("answer", "ann", "x", 3), InvalidGrade, 3)]
        for event, error, told in wrong:
            self.assert_raises(error, told, self.log.with_event, event)
            for place in (0, 5, 11):
                self.assert_raises(error, told, self.log.with_event_at, place, event)
            for place in (-1, 12):
                self.assert_raises(InvalidPlace, place, self.log.with_event_at, place, event)

    def test_120_events(self):
        log = full_log()
        self.assertEqual(len(log.without_event(0).with_event(("reset", "j")).events), 120)
        for event in (("answer", "j", "x", 1), ("reset", "j")):
            self.assert_raises(TooLarge, None, log.with_event, event)
            self.assert_raises(TooLarge, None, log.with_event_at, 60, event)
            self.assert_raises(InvalidPlace, 121, log.with_event_at, 121, event)
        self.assert_raises(UnknownJudge, "k", log.with_event, ("reset", "k"))
        self.assert_raises(UnknownItem, "y", log.with_event, ("answer", "j", "y", 7))
        self.assert_raises(InvalidGrade, 7, log.with_event, ("answer", "j", "x", 7))
        self.assertEqual(parts_of(log), parts_of(full_log()))

    def test_without_event(self):
        for place in range(11):
            events = self.log.events
            events.pop(place)
            self.assert_parts(self.log.without_event(place), events=events)
        for place in (-1, 11, 12, -11):
            self.assert_raises(InvalidPlace, place, self.log.without_event, place)

    def test_beginning(self):
        for many in range(12):
            self.assert_parts(self.log.beginning(many), events=self.log.events[:many])
        self.assertEqual(self.log.beginning(0).answers(), [])
        for many in (-1, 12, 99):
            self.assert_raises(InvalidPlace, many, self.log.beginning, many)

    def test_only(self):
        resets = [("reset", "bob"), ("reset", "ann")]
        self.assert_parts(self.log.only([]), events=resets)
        self.assert_parts(self.log.only(self.log.answers()))
        events = [self.log.events[place] for place in (0, 3, 5, 7, 10)]
        for places in ([0, 5, 10], [10, 0, 5], [5, 5, 10, 0, 10, 5]):
            given = list(places)
            self.assert_parts(self.log.only(given), events=events)
            self.assertEqual(given, places)

    def test_only_takes_just_answers(self):
        for places, told in (([3], 3), ([0, 7, 3], 7), ([-1], -1), ([0, 11], 11), ([0, -1, 11], -1)):
            self.assert_raises(InvalidPlace, told, self.log.only, places)


class ItemsAndJudges(ChangedLog):
    def test_with_item(self):
        for name in ("w", "ann", "abcdefghijkl"):
            self.assert_parts(self.log.with_item(name), items=["x", "y", "z", name])
        self.assert_raises(NameTaken, "y", self.log.with_item, "y")
        for name in ("", "W", "abcdefghijklm", "a b"):
            self.assert_raises(InvalidLog, None, self.log.with_item, name)

    def test_20_items(self):
        items = [f"i{number}" for number in range(19)]
        log = Log(items, 1, [("j", "rises")], []).with_item("w")
        self.assertEqual(log.item_names, items + ["w"])
        self.assert_raises(InvalidLog, None, log.with_item, "v")
        self.assert_raises(NameTaken, "w", log.with_item, "w")

    def test_with_judge(self):
        for name in ("dan", "x"):
            for drift in ("rises", "falls", "stays"):
                self.assert_parts(self.log.with_judge(name, drift), judges=self.log.judges + [(name, drift)])
        self.assert_raises(NameTaken, "ann", self.log.with_judge, "ann", "rises")
        self.assert_raises(NameTaken, "ann", self.log.with_judge, "ann", "moves")
        self.assert_raises(InvalidDrift, None, self.log.with_judge, "dan", "moves")
        self.assert_raises(InvalidDrift, None, self.log.with_judge, "Dan", "")
        self.assert_raises(InvalidLog, None, self.log.with_judge, "Dan", "falls")

    def test_8_judges(self):
        judges = [(f"j{number}", "falls") for number in range(7)]
        log = Log(["x"], 1, judges, []).with_judge("k", "stays")
        self.assertEqual(log.judges, judges + [("k", "stays")])
        self.assert_raises(NameTaken, "k", log.with_judge, "k", "moves")
        self.assert_raises(InvalidDrift, None, log.with_judge, "n", "moves")
        self.assert_raises(InvalidLog, None, log.with_judge, "n", "rises")

    def test_without_item(self):
        self.assert_parts(self.log.without_item("z"), items=["x", "y"])
        self.assert_raises(UnknownItem, "w", self.log.without_item, "w")
        self.assert_raises(UnknownItem, "ann", self.log.without_item, "ann")
        self.assert_raises(NameInUse, "x", self.log.without_item, "x")

    def test_without_judge(self):
        log = self.log.with_judge("dan", "falls")
        self.assert_parts(log.without_judge("dan"))
        self.assert_raises(UnknownJudge, "dan", self.log.without_judge, "dan")
        self.assert_raises(UnknownJudge, "x", self.log.without_judge, "x")
        self.assert_raises(NameInUse, "cid", self.log.without_judge, "cid")
        self.assert_raises(NameInUse, "dan", log.with_event(("reset", "dan")).without_judge, "dan")

    def test_the_only_one(self):
        log = Log(["x"], 1, [("j", "rises")], [])
        self.assert_raises(InvalidLog, None, log.without_item, "x")
        self.assert_raises(InvalidLog, None, log.without_judge, "j")
        log = log.with_event(("answer", "j", "x", 0))
        self.assert_raises(NameInUse, "x", log.without_item, "x")
        self.assert_raises(NameInUse, "j", log.without_judge, "j")
        self.assert_raises(UnknownItem, "y", log.without_item, "y")
        self.assert_raises(UnknownJudge, "k", log.without_judge, "k")

    def test_item_and_judge_of_one_name_are_two(self):
        log = Log(["a", "b"], 1, [("a", "rises"), ("b", "falls")], [("answer", "a", "b", 0), ("reset", "a")])
        self.assertEqual(log.without_item("a").item_names, ["b"])
        self.assertEqual(log.without_judge("b").judges, [("a", "rises")])
        self.assert_raises(NameInUse, "b", log.without_item, "b")
        self.assert_raises(NameInUse, "a", log.without_judge, "a")

    def test_with_drift(self):
        for drift in ("rises", "falls", "stays"):
            judges = [("ann", "rises"), ("bob", drift), ("cid", "stays")]
            self.assert_parts(self.log.with_drift("bob", drift), judges=judges)
        self.assert_raises(UnknownJudge, "x", self.log.with_drift, "x", "moves")
        self.assert_raises(InvalidDrift, None, self.log.with_drift, "bob", "moves")


class WholeLogs(ChangedLog):
    def test_backwards(self):
        judges = [("ann", "falls"), ("bob", "rises"), ("cid", "stays")]
        self.assert_parts(self.log.backwards(), judges=judges, events=list(reversed(self.log.events)))

    def test_backwards_turns_places_and_nothing_else(self):
        for log in random_logs(3, 60):
            last = len(log.events) - 1
            back = log.backwards()
            self.assertTrue(back.backwards().same_as(log))
            for one in log.answers():
                for other in log.answers():
                    self.assertIs(back.in_order(last - one, last - other), log.in_order(one, other))

    def test_same_as(self):
        self.assertIs(self.log.same_as(plain_log()), True)
        self.assertIs(self.log.same_as(self.log), True)
        items, grades, judges, events = parts_of(self.log)
        others = [Log(["y", "x", "z"], grades, judges, events), Log(items + ["w"], grades, judges, events),
                  Log(items, 3, judges, events), Log(items, grades, judges[::-1], events),
                  Log(items, grades, judges + [("dan", "rises")], events),
                  Log(items, grades, [("ann", "falls")] + judges[1:], events),
                  Log(items, grades, judges, events[:-1]), Log(items, grades, judges, events[::-1]),
                  Log(items, grades, judges, events[:-1] + [("answer", "cid", "x", 0)])]
        for number, other in enumerate(others):
            with self.subTest(number=number):
                self.assertIs(self.log.same_as(other), False)
                self.assertIs(other.same_as(self.log), False)


if __name__ == "__main__":
    unittest.main()
