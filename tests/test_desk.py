"""Points 57 to 60: the desk, its changes, undo and redo, kept answers, and trials."""

import unittest
from copy import deepcopy
from random import Random

from helpers import DRIFTS, contradictory_logs, contradicts, parts_of, plain_log, raised, random_logs
from risingbars.desk import Desk, Trial
from risingbars.errors import BarError, InvalidDrift, InvalidGrade, InvalidLog, InvalidPlace, NameTaken, NothingToRedo
from risingbars.errors import NothingToUndo, TooLarge, UnknownItem, UnknownJudge
from risingbars.explain import ring_of
from risingbars.grades import forecast
from risingbars.logs import Log
from risingbars.pairs import sure_pairs
from risingbars.same import needless_answers

QUESTIONS = ("ring", "pairs", "forecast", "needless")
START = Log(["x", "y"], 1, [("j", "rises")], [])
X0, Y1 = ("answer", "j", "x", 0), ("answer", "j", "y", 1)
RING_ROWS = [("answer", "j", "x", 0), ("answer", "j", "x", 1)]


class Stop(Exception):
    """An error that is none of the program."""


def history_of(desk):
    """The parts of all logs from the first change to the last one that can be restored, and the present one's place."""
    at = 0
    while raised(desk.undo) is None:
        at += 1
    logs = [parts_of(desk.log_now())]
    while raised(desk.redo) is None:
        logs.append(parts_of(desk.log_now()))
    for _ in range(len(logs) - 1 - at):
        desk.undo()
    return logs, at


def changed(log, deed):
    """The log with the change, by the methods that point 57 names."""
    methods = {"event": log.with_event, "event at": log.with_event_at, "no event": log.without_event,
               "item": log.with_item, "judge": log.with_judge, "drift": log.with_drift}
    return methods[deed[0]](*deed[1:])


def do(desk, deed):
    """Let the desk make the change."""
    methods = {"event": desk.put_event, "event at": desk.put_event_at, "no event": desk.drop_event,
               "item": desk.put_item, "judge": desk.put_judge, "drift": desk.set_drift, "all": desk.change_all}
    return methods[deed[0]](*deed[1:])


def random_deed(random, log):
    """A change, seldom one that raises."""
    judges = [judge for judge, _ in log.judges] + ["new"] * (random.random() < 0.1)
    items = log.item_names + ["none"] * (random.random() < 0.1)
    event = ("answer", random.choice(judges), random.choice(items), random.randint(0, log.grades + (random.random() < 0.1)))
    if random.random() < 0.2:
        event = ("reset", random.choice(judges))
    place = random.randint(-1, len(log.events))
    drift = random.choice(DRIFTS + ("up",) * (random.random() < 0.1))
    return random.choice([("event", event), ("event", event), ("event at", place, event), ("no event", place),
                          ("item", random.choice(["u", "v", "X", "x"])),
                          ("judge", random.choice(["k", "l", "j", ""]), drift),
                          ("drift", random.choice(judges), drift)])


def wrong_deeds(log):
    """Changes of a log with the judge j, the items x and y and the highest grade 1, that raise, and what they raise."""
    many = len(log.events)
    return [(("event", ("answer", "x", "w", 7)), (UnknownJudge, "x")), (("event", ("reset", "x")), (UnknownJudge, "x")),
            (("event", ("answer", "j", "j", 7)), (UnknownItem, "j")), (("event", ("answer", "j", "x", 2)), (InvalidGrade, 2)),
            (("event", ("answer", "j", "x", -1)), (InvalidGrade, -1)),
            (("event at", -1, ("reset", "x")), (InvalidPlace, -1)),
            (("event at", many + 1, ("reset", "x")), (InvalidPlace, many + 1)),
            (("event at", 0, ("reset", "x")), (UnknownJudge, "x")),
            (("no event", many), (InvalidPlace, many)), (("no event", -1), (InvalidPlace, -1)),
            (("item", "y"), (NameTaken, "y")), (("item", "Y"), (InvalidLog,)), (("item", ""), (InvalidLog,)),
            (("judge", "j", "up"), (NameTaken, "j")), (("judge", "K", "up"), (InvalidDrift,)),
            (("judge", "K", "rises"), (InvalidLog,)),
            (("drift", "x", "up"), (UnknownJudge, "x")), (("drift", "j", "up"), (InvalidDrift,))]


class Changes(unittest.TestCase):
    def test_each_sort(self):
        desk = Desk(START)
        deeds = [("event", X0), ("event at", 0, Y1), ("event", ("reset", "j")), ("no event", 1), ("item", "z"),
                 ("judge", "k", "falls"), ("drift", "j", "stays"), ("event at", 2, ("answer", "k", "z", 1))]
        for deed in deeds:
            self.assertIsNone(do(desk, deed))
        told = parts_of(desk.log_now())
        self.assertEqual(told, (["x", "y", "z"], 1, [("j", "stays"), ("k", "falls")],
                                [Y1, ("reset", "j"), ("answer", "k", "z", 1)]))
        for _ in deeds:
            self.assertIsNone(desk.undo())
        self.assertEqual(parts_of(desk.log_now()), parts_of(START))
        for _ in deeds:
            self.assertIsNone(desk.redo())
        self.assertEqual(parts_of(desk.log_now()), told)

    def test_nothing_to_undo_or_redo(self):
        desk = Desk(START)
        for _ in range(2):
            self.assertEqual(raised(desk.undo), (NothingToUndo,))
            self.assertEqual(raised(desk.redo), (NothingToRedo,))
        desk.put_event(X0)
        self.assertEqual(raised(desk.redo), (NothingToRedo,))
        desk.undo()
        self.assertEqual(raised(desk.undo), (NothingToUndo,))
        desk.redo()
        self.assertEqual(raised(desk.redo), (NothingToRedo,))
        self.assertEqual(desk.log_now().events, [X0])

    def test_a_change_discards_what_could_be_restored_and_nothing_else_does(self):
        desk = Desk(START)
        for event in (X0, Y1, X0):
            desk.put_event(event)
        desk.undo()
        desk.undo()
        for question in QUESTIONS:
            desk.answer(question)
        desk.log_now()
        self.assertEqual(raised(desk.put_item, "x"), (NameTaken, "x"))
        with desk.trial():
            pass
        desk.change_all([])
        self.assertEqual(desk.found, 4)
        desk.redo()
        desk.redo()
        self.assertEqual(desk.log_now().events, [X0, Y1, X0])
        desk.undo()
        desk.undo()
        desk.put_event(("reset", "j"))
        self.assertEqual(raised(desk.redo), (NothingToRedo,))
        desk.undo()
        self.assertEqual(desk.log_now().events, [X0])

    def test_a_drift_that_is_given_again_is_a_change(self):
        desk = Desk(START)
        desk.put_event(X0)
        desk.undo()
        desk.set_drift("j", "rises")
        self.assertEqual(raised(desk.redo), (NothingToRedo,))
        self.assertEqual(desk.log_now().events, [])
        desk.undo()
        self.assertEqual(raised(desk.undo), (NothingToUndo,))
        self.assertEqual(parts_of(desk.log_now()), parts_of(START))

    def test_changes_that_raise(self):
        desk = Desk(START)
        for event in (X0, Y1, X0):
            desk.put_event(event)
        desk.undo()
        before = history_of(desk)
        for deed, told in wrong_deeds(desk.log_now()):
            self.assertEqual(raised(do, desk, deed), told, deed)
            self.assertEqual(raised(desk.change_all, [deed]), told, deed)
            self.assertEqual(history_of(desk), before)

    def test_too_large_and_too_many(self):
        desk = Desk(Log(["x", "y"], 1, [("j", "rises")], [X0] * 119))
        desk.put_event(Y1)
        before = history_of(desk)
        self.assertEqual(raised(desk.put_event, Y1), (TooLarge,))
        self.assertEqual(raised(desk.put_event_at, 0, ("reset", "j")), (TooLarge,))
        self.assertEqual(raised(desk.put_event, ("answer", "j", "x", 2)), (InvalidGrade, 2))
        self.assertEqual(history_of(desk), before)
        desk = Desk(Log([f"i{at}" for at in range(20)], 1, [(f"j{at}", "rises") for at in range(8)], []))
        self.assertEqual(raised(desk.put_item, "x"), (InvalidLog,))
        self.assertEqual(raised(desk.put_judge, "x", "rises"), (InvalidLog,))
        self.assertEqual(raised(desk.undo), (NothingToUndo,))

    def test_rows_of_changes(self):
        errors = 0
        for seed in range(40):
            random = Random(seed)
            desk = Desk(START)
            states, at = [START], 0
            for _ in range(40):
                word = random.choice(["undo", "redo", "change", "change"])
                if word == "change":
                    deed = random_deed(random, states[at])
                    error = raised(do, desk, deed)
                    self.assertEqual(error, raised(changed, states[at], deed))
                    errors += error is not None
                    if error is None:
                        states = states[:at + 1] + [changed(states[at], deed)]
                        at += 1
                elif word == "undo":
                    self.assertEqual(raised(desk.undo), None if at > 0 else (NothingToUndo,))
                    at = max(at - 1, 0)
                else:
                    self.assertEqual(raised(desk.redo), None if at + 1 < len(states) else (NothingToRedo,))
                    at = min(at + 1, len(states) - 1)
                self.assertEqual(parts_of(desk.log_now()), parts_of(states[at]))
                if random.random() < 0.2:
                    self.assertEqual(history_of(desk), ([parts_of(log) for log in states], at))
        self.assertGreater(errors, 40)

    def test_the_log_that_is_handed_in_stays(self):
        log = plain_log()
        before = parts_of(log)
        desk = Desk(log)
        told = desk.log_now()
        desk.put_item("w")
        desk.drop_event(0)
        self.assertEqual(parts_of(log), before)
        self.assertEqual(parts_of(told), before)


class Answers(unittest.TestCase):
    def assert_answers(self, desk):
        log = desk.log_now()
        self.assertEqual(desk.answer("ring"), ring_of(log))
        self.assertEqual(desk.answer("needless"), needless_answers(log))
        wrong = contradicts(log)
        self.assertEqual(desk.answer("pairs"), None if wrong else sure_pairs(log))
        self.assertEqual(desk.answer("forecast"), None if wrong else forecast(log))

    def test_single(self):
        desk = Desk(START)
        desk.change_all([("event", X0), ("event", Y1), ("event", Y1)])
        self.assertEqual([desk.answer(question) for question in QUESTIONS],
                         [None, [("x", "y")], {"j": {"x": (0, 0), "y": (0, 1)}}, [1, 2]])
        desk.put_event(("answer", "j", "x", 1))
        self.assertEqual([desk.answer(question) for question in QUESTIONS], [[(0, 3)], None, None, [1, 2]])

    def test_behind_each_change(self):
        random = Random(311)
        rings = 0
        for log in random_logs(312, 15, most_events=5) + contradictory_logs(313, 10, most_events=6):
            desk = Desk(log)
            self.assert_answers(desk)
            for _ in range(8):
                raised(random.choice([desk.undo, desk.redo, lambda: do(desk, random_deed(random, desk.log_now())),
                                      lambda: do(desk, random_deed(random, desk.log_now()))]))
                self.assert_answers(desk)
                rings += desk.answer("ring") is not None
        self.assertGreater(rings, 40)

    def test_a_told_answer_is_a_copy(self):
        for log in (Log(["x", "y"], 1, [("j", "rises")], [X0, Y1, Y1]), Log(["x"], 1, [("j", "rises")], RING_ROWS * 2)):
            desk = Desk(log)
            before = {question: deepcopy(desk.answer(question)) for question in QUESTIONS}
            for _ in range(2):
                for question in QUESTIONS:
                    told = desk.answer(question)
                    if isinstance(told, dict):
                        for row in told.values():
                            row.clear()
                            row["w"] = (7, 7)
                    if told:
                        told.clear()
                self.assertEqual({question: desk.answer(question) for question in QUESTIONS}, before)
            # The first told answer is none that is kept either.
            desk = Desk(log)
            for question in QUESTIONS:
                told = desk.answer(question)
                if told:
                    if isinstance(told, dict):
                        told["j"].clear()
                    told.clear()
            self.assertEqual({question: desk.answer(question) for question in QUESTIONS}, before)

    def test_each_is_found_once(self):
        desk = Desk(START)
        self.assertEqual(desk.found, 0)
        for many, question in enumerate(QUESTIONS, 1):
            for _ in range(3):
                desk.answer(question)
                self.assertEqual(desk.found, many)
        desk.put_event(X0)
        self.assertEqual(desk.found, 4)
        desk.answer("ring")
        self.assertEqual(desk.found, 5)
        desk.undo()
        for question in QUESTIONS:
            desk.answer(question)
        self.assertEqual(desk.found, 5)
        desk.redo()
        desk.answer("ring")
        self.assertEqual(desk.found, 5)
        desk.answer("needless")
        self.assertEqual(desk.found, 6)

    def test_logs_with_the_same_parts_count_as_one(self):
        desk = Desk(START)
        desk.answer("pairs")
        desk.set_drift("j", "rises")
        desk.answer("pairs")
        desk.put_event(X0)
        desk.answer("pairs")
        desk.drop_event(0)
        desk.answer("pairs")
        desk.put_event_at(0, X0)
        desk.answer("pairs")
        self.assertEqual(desk.found, 2)
        # What is not the same: a drift, an item, a judge, another order.
        for deed in (("drift", "j", "falls"), ("item", "z"), ("judge", "k", "rises"), ("event", Y1)):
            do(desk, deed)
            desk.answer("pairs")
        self.assertEqual(desk.found, 6)
        desk.change_all([("no event", 1), ("event at", 0, Y1)])
        desk.answer("pairs")
        self.assertEqual(desk.found, 7)

    def test_none_is_kept_like_other_answers(self):
        desk = Desk(Log(["x"], 1, [("j", "rises")], RING_ROWS))
        for _ in range(3):
            self.assertEqual([desk.answer("pairs"), desk.answer("forecast")], [None, None])
        self.assertEqual(desk.found, 2)

    def test_behind_a_trial_that_was_left_by_an_error(self):
        desk = Desk(START)
        try:
            with desk.trial():
                desk.put_event(X0)
                desk.answer("ring")
                desk.answer("pairs")
                raise Stop
        except Stop:
            pass
        self.assertEqual((desk.found, desk.log_now().events), (2, []))
        desk.put_event(X0)
        desk.answer("ring")
        desk.answer("pairs")
        self.assertEqual(desk.found, 2)
        desk.answer("needless")
        self.assertEqual(desk.found, 3)

    def test_each_desk_finds_its_own(self):
        one, other = Desk(START), Desk(START)
        one.answer("ring")
        self.assertEqual((one.found, other.found), (1, 0))


class Trials(unittest.TestCase):
    def test_enter_returns_the_desk(self):
        desk = Desk(START)
        trial = desk.trial()
        self.assertIsInstance(trial, Trial)
        with trial as held:
            self.assertIs(held, desk)
        with Trial(desk) as held:
            self.assertIs(held, desk)
            held.put_event(X0)
        self.assertEqual(desk.log_now().events, [X0])

    def test_left_without_an_error(self):
        desk = Desk(START)
        desk.put_event(X0)
        with desk.trial():
            desk.put_event(Y1)
            desk.put_item("z")
        self.assertEqual((desk.log_now().events, desk.log_now().item_names), ([X0, Y1], ["x", "y", "z"]))
        desk.undo()
        self.assertEqual((desk.log_now().events, desk.log_now().item_names), ([X0, Y1], ["x", "y"]))
        desk.undo()
        desk.undo()
        self.assertEqual(raised(desk.undo), (NothingToUndo,))
        desk.redo()
        desk.redo()
        desk.redo()
        self.assertEqual(desk.log_now().item_names, ["x", "y", "z"])

    def test_left_by_an_error(self):
        for error in (Stop, ValueError, BarError, KeyError, KeyboardInterrupt):
            desk = Desk(START)
            for event in (X0, Y1, X0):
                desk.put_event(event)
            desk.undo()
            before = history_of(desk)
            with self.assertRaises(error):
                with desk.trial():
                    desk.undo()
                    desk.undo()
                    desk.put_item("z")
                    desk.set_drift("j", "falls")
                    raise error("why")
            self.assertEqual(history_of(desk), before)

    def test_left_by_an_error_of_the_desk(self):
        desk = Desk(START)
        desk.put_event(X0)
        desk.undo()
        before = history_of(desk)

        def block():
            with desk.trial():
                desk.redo()
                desk.redo()

        self.assertEqual(raised(block), (NothingToRedo,))
        self.assertEqual(history_of(desk), before)

    def test_undo_and_redo_within(self):
        desk = Desk(START)
        for event in (X0, Y1):
            desk.put_event(event)
        with desk.trial():
            desk.undo()
            desk.undo()
            self.assertEqual(raised(desk.undo), (NothingToUndo,))
            desk.redo()
        self.assertEqual(desk.log_now().events, [X0])
        desk.redo()
        self.assertEqual(desk.log_now().events, [X0, Y1])
        self.assertEqual(raised(desk.redo), (NothingToRedo,))

    def test_nested(self):
        desk = Desk(START)
        with desk.trial():
            desk.put_event(X0)
            with self.assertRaises(Stop):
                with desk.trial():
                    desk.put_event(Y1)
                    with desk.trial():
                        desk.put_item("z")
                    self.assertEqual(desk.log_now().item_names, ["x", "y", "z"])
                    raise Stop
            self.assertEqual((desk.log_now().events, desk.log_now().item_names), ([X0], ["x", "y"]))
            self.assertEqual(raised(desk.redo), (NothingToRedo,))
            desk.put_judge("k", "stays")
        self.assertEqual([len(log[3]) for log in history_of(desk)[0]], [0, 1, 1])
        with self.assertRaises(Stop):
            with desk.trial():
                with desk.trial():
                    desk.put_item("z")
                desk.undo()
                raise Stop
        self.assertEqual(history_of(desk)[1], 2)
        self.assertEqual(desk.log_now().item_names, ["x", "y"])

    def test_what_was_there_when_the_block_was_entered(self):
        desk = Desk(START)
        trial = desk.trial()
        desk.put_event(X0)
        with self.assertRaises(Stop):
            with trial:
                desk.put_event(Y1)
                raise Stop
        self.assertEqual(desk.log_now().events, [X0])
        self.assertEqual(history_of(desk)[1], 1)

    def test_random_blocks(self):
        left = {True: 0, False: 0}
        for seed in range(60):
            random = Random(seed)
            desk = Desk(START)

            def block(depth):
                states, at = history_of(desk)
                stops = random.random() < 0.5
                try:
                    with desk.trial():
                        for _ in range(random.randint(0, 4)):
                            raised(random.choice([desk.undo, desk.redo, lambda: do(desk, random_deed(random, desk.log_now()))]))
                            if depth < 3 and random.random() < 0.4:
                                block(depth + 1)
                        inner = history_of(desk)
                        if stops:
                            raise Stop
                except Stop:
                    self.assertTrue(stops)
                self.assertEqual(history_of(desk), (states, at) if stops else inner)
                left[stops] += 1

            for _ in range(4):
                block(0)
        self.assertGreater(min(left.values()), 100)


class ChangeAll(unittest.TestCase):
    def test_each_sort(self):
        desk = Desk(START)
        deeds = [("event", X0), ("event at", 0, Y1), ("no event", 1), ("item", "z"), ("judge", "k", "falls"),
                 ("drift", "j", "stays"), ("all", [("event", ("reset", "k")), ("all", []), ("drift", "k", "rises")])]
        handed = deepcopy(deeds)
        self.assertIsNone(desk.change_all(deeds))
        self.assertEqual(deeds, handed)
        self.assertEqual(parts_of(desk.log_now()),
                         (["x", "y", "z"], 1, [("j", "stays"), ("k", "rises")], [Y1, ("reset", "k")]))
        # Each can be undone by itself.
        self.assertEqual(history_of(desk)[1], 8)
        desk.undo()
        self.assertEqual(desk.log_now().judges, [("j", "stays"), ("k", "falls")])

    def test_the_empty_list(self):
        desk = Desk(START)
        desk.put_event(X0)
        desk.undo()
        before = history_of(desk)
        for deeds in ([], [("all", [])], [("all", [("all", [])]), ("all", [])]):
            self.assertIsNone(desk.change_all(deeds))
            self.assertEqual(history_of(desk), before)

    def test_one_that_raises(self):
        right = [("event", X0), ("item", "z"), ("all", [("event", Y1), ("judge", "k", "rises")]), ("drift", "j", "falls")]
        for deed, told in wrong_deeds(START):
            if deed[0] in ("event at", "no event") and told[0] == InvalidPlace:
                deed, told = ("no event", 99), (InvalidPlace, 99)
            for at in range(len(right) + 1):
                for wrong in (deed, ("all", [deed]), ("all", [("item", "w"), ("all", [("item", "v"), deed, ("item", "u")])])):
                    desk = Desk(START)
                    desk.change_all([("event", ("reset", "j")), ("event", ("reset", "j"))])
                    desk.undo()
                    before = history_of(desk)
                    deeds = right[:at] + [wrong] + right[at:]
                    handed = deepcopy(deeds)
                    self.assertEqual(raised(desk.change_all, deeds), told)
                    self.assertEqual(history_of(desk), before)
                    self.assertEqual(deeds, handed)

    def test_kept_answers_stay(self):
        desk = Desk(START)
        for question in QUESTIONS:
            desk.answer(question)
        self.assertEqual(raised(desk.change_all, [("event", X0), ("item", "x")]), (NameTaken, "x"))
        self.assertEqual(desk.found, 4)
        for question in QUESTIONS:
            desk.answer(question)
        self.assertEqual(desk.found, 4)

    def test_20_deep(self):
        desk = Desk(START)
        deeds = [("event", X0)]
        wrong = [("event", X0), ("item", "x")]
        for number in range(20):
            deeds = [("all", deeds), ("item", f"n{number}")] if number < 5 else [("all", deeds)]
            wrong = [("item", f"m{number}"), ("all", wrong)] if number > 15 else [("all", wrong)]
        self.assertEqual(raised(desk.change_all, wrong), (NameTaken, "x"))
        self.assertEqual(history_of(desk), ([parts_of(START)], 0))
        desk.change_all(deeds)
        self.assertEqual((desk.log_now().item_names, desk.log_now().events),
                         (["x", "y", "n0", "n1", "n2", "n3", "n4"], [X0]))
        self.assertEqual(history_of(desk)[1], 6)

    def test_it_discards_what_could_be_restored(self):
        desk = Desk(START)
        desk.put_event(X0)
        desk.undo()
        desk.change_all([("item", "z")])
        self.assertEqual(raised(desk.redo), (NothingToRedo,))

    def test_later_changes_of_the_list_do_nothing(self):
        desk = Desk(START)
        inner = [("item", "z")]
        deeds = [("event", X0), ("all", inner)]
        desk.change_all(deeds)
        deeds.clear()
        inner.append(("item", "w"))
        desk.undo()
        desk.redo()
        self.assertEqual(desk.log_now().item_names, ["x", "y", "z"])


if __name__ == "__main__":
    unittest.main()
