"""Points 2, 3, 5, 6 and 7: names, the parts of a log, and what is copied."""

import unittest

from helpers import parts_of, plain_log
from risingbars.errors import InvalidLog
from risingbars.logs import Log, is_name

JUDGES = [("j", "rises")]


def names(many, letter="i"):
    return [f"{letter}{number}" for number in range(many)]


class Names(unittest.TestCase):
    def test_names(self):
        for text in ("a", "z", "0", "9", "abc", "0a", "abcdefghijkl", "mnopqrstuvwx", "yz0123456789"):
            with self.subTest(text=text):
                self.assertIs(is_name(text), True)

    def test_no_names(self):
        wrong = ["", "abcdefghijklm", "a" * 120, "A", "Ab", "aB", " ", "a b", " a", "a ", "a-b", "-", "a_b", "_a",
                 "\n", "a\n", "\na", "a\nb", "a.", "a/", "a:", "a@", "a[", "a`", "a{", "a~", "a!"]
        for text in wrong:
            with self.subTest(text=text):
                self.assertIs(is_name(text), False)

    def test_of_the_ascii_signs_just_letters_and_digits(self):
        told = "".join(chr(code) for code in range(32, 127) if is_name(chr(code)))
        self.assertEqual(told, "0123456789abcdefghijklmnopqrstuvwxyz")


class TakenLogs(unittest.TestCase):
    def test_parts(self):
        events = [("answer", "ann", "y", 2), ("reset", "bob"), ("answer", "bob", "x", 0)]
        log = Log(["y", "x"], 2, [("bob", "stays"), ("ann", "falls")], events)
        self.assertEqual(log.item_names, ["y", "x"])
        self.assertEqual(log.grades, 2)
        self.assertEqual(log.judges, [("bob", "stays"), ("ann", "falls")])
        self.assertEqual(log.events, events)

    def test_bounds(self):
        for many_items in (1, 20):
            for grades in (1, 9):
                for many_judges in (1, 8):
                    for many_events in (0, 120):
                        with self.subTest(bounds=(many_items, grades, many_judges, many_events)):
                            judges = [(name, "falls") for name in names(many_judges)]
                            events = [("answer", "i0", "i0", grades * (k % 2)) for k in range(many_events)]
                            log = Log(names(many_items), grades, judges, events)
                            self.assertEqual(parts_of(log), (names(many_items), grades, judges, events))

    def test_item_and_judge_of_one_name(self):
        self.assertEqual(Log(["a"], 1, [("a", "stays")], [("answer", "a", "a", 1)]).item_names, ["a"])

    def test_each_drift(self):
        for drift in ("rises", "falls", "stays"):
            self.assertEqual(Log(["x"], 1, [("j", drift)], []).judges, [("j", drift)])

    def test_names_of_1_and_12_signs(self):
        for name in ("q", "abcdefghijkl"):
            log = Log([name], 1, [(name, "rises")], [("answer", name, name, 0), ("reset", name)])
            self.assertEqual(parts_of(parsed(log)), parts_of(log))


def parsed(log):
    return Log(log.item_names, log.grades, log.judges, log.events)


class InvalidLogs(unittest.TestCase):
    def assert_invalid(self, items=("x", "y"), grades=2, judges=(("j", "rises"), ("k", "stays")), events=()):
        with self.subTest(items=items, grades=grades, judges=judges, events=events):
            with self.assertRaises(InvalidLog):
                Log(list(items), grades, list(judges), list(events))

    def test_one_beyond_each_bound(self):
        self.assert_invalid(items=[])
        self.assert_invalid(items=names(21))
        for grades in (-1, 0, 10, 11, 100):
            self.assert_invalid(grades=grades)
        self.assert_invalid(judges=[])
        self.assert_invalid(judges=[(name, "rises") for name in names(9)])
        self.assert_invalid(events=[("reset", "j")] * 121)
        self.assert_invalid(events=[("answer", "j", "x", 0)] * 121)

    def test_names(self):
        for name in ("", "abcdefghijklm", "A", "a b", "a-b", "a_b", "a\n", "\n"):
            self.assert_invalid(items=["x", name])
            self.assert_invalid(items=[name, "x"])
            self.assert_invalid(judges=[("j", "rises"), (name, "falls")])
            self.assert_invalid(judges=[(name, "falls")])

    def test_names_that_stand_twice(self):
        self.assert_invalid(items=["x", "y", "x"])
        self.assert_invalid(items=["x", "x"])
        self.assert_invalid(judges=[("j", "rises"), ("k", "falls"), ("j", "stays")])
        self.assert_invalid(judges=[("j", "rises"), ("j", "rises")])

    def test_drifts(self):
        for drift in ("", "rise", "Rises", "rises ", "stay", "moves", "x"):
            self.assert_invalid(judges=[("j", drift)])
            self.assert_invalid(judges=[("j", "rises"), ("k", drift)])

    def test_judges_of_another_number_of_parts(self):
        for judge in ((), ("j",), ("j", "rises", "rises"), ("j", "rises", "")):
            self.assert_invalid(judges=[judge])
            self.assert_invalid(judges=[("k", "rises"), judge])

    def test_events(self):
        wrong = [("Answer", "j", "x", 0), ("answers", "j", "x", 0), ("", "j", "x", 0), ("", "j"), ("Reset", "j"),
                 ("set", "j"), ("j",), ("answer", "i", "x", 0), ("answer", "x", "x", 0), ("answer", "j", "z", 0),
                 ("answer", "j", "j", 0), ("answer", "j", "x", -1), ("answer", "j", "x", 3), ("reset", "i"),
                 ("reset", "x"), ("reset", ""), ("answer", "", "x", 0), ("answer", "j", "", 0)]
        for event in wrong:
            self.assert_invalid(events=[event])
            self.assert_invalid(events=[("answer", "j", "x", 0), event, ("reset", "j")])

    def test_events_of_another_number_of_parts(self):
        wrong = [("answer",), ("answer", "j"), ("answer", "j", "x"), ("answer", "j", "x", 0, 0),
                 ("answer", "j", "x", 0, "x"), ("reset",), ("reset", "j", "j"), ("reset", "j", "x", 0), ()]
        for event in wrong:
            self.assert_invalid(events=[event])
            self.assert_invalid(events=[("reset", "j"), event])


class Copies(unittest.TestCase):
    def test_what_is_handed_in_stays_and_is_copied(self):
        items, judges = ["x", "y"], [("j", "rises")]
        events = [("answer", "j", "x", 0), ("reset", "j")]
        log = Log(items, 1, judges, events)
        self.assertEqual((items, judges, events),
                         (["x", "y"], [("j", "rises")], [("answer", "j", "x", 0), ("reset", "j")]))
        items.append("z")
        judges[0] = ("k", "falls")
        events.clear()
        self.assertEqual(parts_of(log), (["x", "y"], 1, [("j", "rises")], [("answer", "j", "x", 0), ("reset", "j")]))
        self.assertEqual(log.answers(), [0])
        self.assertEqual(log.drift_of("j"), "rises")

    def test_what_is_returned_is_new(self):
        log = plain_log()
        calls = [lambda: log.item_names, lambda: log.judges, lambda: log.events, log.answers,
                 lambda: log.answers_of("ann"), lambda: log.stretch_of(0), lambda: log.stretches("ann"),
                 lambda: log.stretches("ann")[0], lambda: log.stretch_at("ann", 0)]
        for number, call in enumerate(calls):
            with self.subTest(number=number):
                before = list(call())
                told = call()
                told.reverse()
                told.append("something")
                self.assertEqual(call(), before)
        told = log.stretches("bob")
        told[0].append("something")
        self.assertEqual(log.stretches("bob"), [[1], [5, 8]])
        self.assertEqual(parts_of(log), parts_of(plain_log()))

    def test_parts_cannot_be_assigned(self):
        log = plain_log()
        for name in ("item_names", "grades", "judges", "events"):
            with self.assertRaises(AttributeError):
                setattr(log, name, 3)


if __name__ == "__main__":
    unittest.main()
