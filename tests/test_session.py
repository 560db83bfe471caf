"""Point 62: sessions."""

import unittest
from random import Random

import helpers
from helpers import contradictory_logs, contradicts, explained_logs, parts_of
from risingbars.grades import forecast
from risingbars.logs import Log
from risingbars.notation import format_log
from risingbars.session import Session

START = Log(["x", "y", "z"], 2, [("j", "rises"), ("k", "stays")], [])
RING = Log(["x", "y"], 1, [("j", "rises")], [("answer", "j", "x", 0), ("answer", "j", "x", 1)])
FULL = Log(["x"], 1, [("j", "rises")], [("reset", "j")] * 120)
CHANGES = ["answer j x 0", "answer j y 2", "reset k", "answer k z 1", "drop 0", "item w", "judge l falls",
           "drift j stays", "undo", "redo"]


def after(log, *lines):
    """A session in which all these lines have been obeyed, each as a change."""
    session = Session(log)
    for line in lines:
        reply = session.obey(line)
        assert reply == "ok", (line, reply)
    return session


class Changes(unittest.TestCase):
    def test_each_sort(self):
        session = Session(START)
        head = "item x\nitem y\nitem z\ngrades 2\njudge j rises\njudge k stays"
        steps = [("answer j x 0", head + "\nanswer j x 0"), ("answer k y 2", head + "\nanswer j x 0\nanswer k y 2"),
                 ("reset k", head + "\nanswer j x 0\nanswer k y 2\nreset k"), ("drop 1", head + "\nanswer j x 0\nreset k"),
                 ("drop 0", head + "\nreset k"), ("undo", head + "\nanswer j x 0\nreset k"), ("redo", head + "\nreset k")]
        for line, told in steps:
            self.assertEqual(session.obey(line), "ok")
            self.assertEqual(session.obey("log"), told)
        for line in ("item w", "judge l falls", "drift j stays", "drift j stays"):
            self.assertEqual(session.obey(line), "ok")
        told = "item x\nitem y\nitem z\nitem w\ngrades 2\njudge j stays\njudge k stays\njudge l falls\nreset k"
        self.assertEqual(session.obey("log"), told)
        self.assertEqual([session.obey("undo") for _ in range(4)], ["ok"] * 4)
        self.assertEqual(session.obey("log"), head + "\nreset k")

    def test_a_judge_and_an_item_may_have_the_same_name(self):
        session = after(START, "item j", "judge x rises", "answer x j 1")
        self.assertEqual(session.obey("log").split("\n")[-1], "answer x j 1")

    def test_large_places(self):
        session = Session(FULL)
        self.assertEqual(session.play("drop 119\ndrop 119\ndrop 99\ndrop 100\ndrop 9\ndrop 0"),
                         ["ok", "error place 119", "ok", "ok", "ok", "ok"])

    def test_the_log_that_is_handed_in_stays(self):
        before = parts_of(START)
        one, other = Session(START), Session(START)
        one.play("\n".join(CHANGES))
        self.assertEqual(parts_of(START), before)
        self.assertEqual(other.obey("log"), format_log(START))


class Questions(unittest.TestCase):
    def test_single(self):
        session = after(START, "answer j y 0", "answer j x 1")
        told = {"ring": "none", "worse y x": "yes", "worse x y": "no", "worse x x": "no", "worse z x": "no",
                "can j y": "0-0", "can j x": "0-1", "can k x": "0-2", "can j z": "0-2", "pairs": "y<x"}
        for line, reply in told.items():
            self.assertEqual(session.obey(line), reply, line)
        self.assertEqual(session.obey("answer j z 2"), "ok")
        self.assertEqual(session.obey("pairs"), "x<z y<x y<z")
        self.assertEqual(Session(START).obey("pairs"), "none")
        self.assertEqual(Session(START).obey("can k z"), "0-2")

    def test_of_a_log_that_contradicts_itself(self):
        for log in [RING, FULL.with_drift("j", "stays").beginning(110).with_event(("answer", "j", "x", 1)).with_event(
                ("answer", "j", "x", 0))] + contradictory_logs(331, 20):
            session = Session(log)
            item, judge = log.item_names[-1], log.judges[-1][0]
            ring = " ".join(f"{first}-{second}" for first, second in helpers.first_ring(log))
            self.assertEqual(session.obey("ring"), ring)
            self.assertEqual(session.obey("pairs"), "contradiction")
            self.assertEqual(session.obey(f"worse {item} {item}"), "contradiction")
            self.assertEqual(session.obey(f"can {judge} {item}"), "contradiction")
            # Unknown names are ahead of it.
            self.assertEqual(session.obey(f"worse w {item}"), "error item w")
            self.assertEqual(session.obey(f"worse {item} W!"), "error item W!")
            self.assertEqual(session.obey("worse v w"), "error item v")
            self.assertEqual(session.obey(f"can q {item}"), "error judge q")
            self.assertEqual(session.obey(f"can {judge} w"), "error item w")
            self.assertEqual(session.obey("can q w"), "error judge q")
            self.assertEqual(session.obey("log"), format_log(log))
        self.assertEqual(Session(RING).obey("ring"), "0-1")

    def test_small_logs(self):
        for log in explained_logs(332, 60):
            session = Session(log)
            before = parts_of(log)
            below = helpers.below(log)
            self.assertEqual(session.obey("ring"), "none")
            pairs = []
            for one in log.item_names:
                for other in log.item_names:
                    told = "yes" if one in below[other] else "no"
                    self.assertEqual(session.obey(f"worse {one} {other}"), told)
                    pairs += [f"{one}<{other}"] if told == "yes" else []
            self.assertEqual(session.obey("pairs"), " ".join(pairs) if pairs else "none")
            for judge, row in forecast(log).items():
                for item, (least, greatest) in row.items():
                    self.assertEqual(session.obey(f"can {judge} {item}"), f"{least}-{greatest}")
            self.assertEqual(session.obey("log"), format_log(log))
            self.assertEqual(parts_of(log), before)

    def test_questions_change_nothing(self):
        session = after(START, "answer j x 0", "item w", "undo")
        before = session.obey("log")
        for line in ("ring", "pairs", "log", "worse x y", "can j x", "worse x v", "can q x", "nothing", "", "drop 9",
                     "item x", "judge l up", "drift q up", "answer q x 0", "drop 00"):
            session.obey(line)
            self.assertEqual(session.obey("log"), before)
        self.assertEqual(session.obey("redo"), "ok")
        self.assertEqual(session.obey("redo"), "error redo")


class Errors(unittest.TestCase):
    def assert_replies(self, log, told):
        session = Session(log)
        for line, reply in told.items():
            self.assertEqual(session.obey(line), reply, line)
        self.assertEqual(session.obey("log"), format_log(log))

    def test_each(self):
        self.assert_replies(START, {
            "answer q w 9": "error judge q", "answer j w 9": "error item w", "answer j x 9": "error grade 9",
            "answer j x 3": "error grade 3", "reset q": "error judge q", "answer x x 0": "error judge x",
            "answer j j 0": "error item j", "drop 0": "error place 0", "drop 7": "error place 7",
            "drop 120": "error place 120", "drop 999": "error place 999", "item x": "error taken x",
            "judge j up": "error taken j", "judge l up": "error drift", "judge L up": "error drift",
            "judge L rises": "error log", "item X": "error log", "item 1234567890123": "error log",
            "drift q up": "error judge q", "drift j up": "error drift", "drift x rises": "error judge x",
            "undo": "error undo", "redo": "error redo", "worse v w": "error item v", "worse x w": "error item w",
            "worse j x": "error item j", "can q w": "error judge q", "can x x": "error judge x",
            "can j w": "error item w", "can j j": "error item j"})

    def test_too_large(self):
        self.assert_replies(FULL, {
            "reset j": "error large", "answer j x 1": "error large", "answer j x 2": "error grade 2",
            "answer j w 2": "error item w", "answer q w 2": "error judge q", "reset q": "error judge q",
            "ring": "none"})
        self.assertEqual(Session(FULL).play("drop 5\nanswer j x 1\nanswer j x 1"), ["ok", "ok", "error large"])

    def test_too_many_items_and_judges(self):
        log = Log([f"i{at}" for at in range(20)], 1, [(f"j{at}", "rises") for at in range(8)], [])
        self.assert_replies(log, {"item w": "error log", "judge w rises": "error log", "judge w up": "error drift",
                                  "item i3": "error taken i3", "judge j7 rises": "error taken j7"})

    def test_names_that_are_none(self):
        # An event has to have names, as read_event tells; other lines take any words.
        command = "error command"
        self.assert_replies(START, {
            "answer J x 0": command, "answer j X 0": command, "reset J": command, "answer j x! 0": command,
            "answer 1234567890123 x 0": command, "reset 1234567890123": command,
            "item x-y": "error log", "item %$": "error log", "item undo,": "error log", "judge J! falls": "error log",
            "drift J! falls": "error judge J!", "worse X~ x": "error item X~", "worse x Y": "error item Y",
            "can J x": "error judge J", "can j <": "error item <"})

    def test_words_of_lines_are_names_too(self):
        session = after(START, "item drop", "item undo", "judge answer rises", "answer answer drop 1")
        self.assertEqual(session.obey("can answer undo"), "0-2")
        self.assertEqual(session.obey("item undo"), "error taken undo")

    def test_undo_and_redo_at_the_ends(self):
        session = Session(START)
        self.assertEqual(session.play("undo\nredo\nitem w\nredo\nundo\nundo\nredo\nredo\nundo\nitem v\nredo\nundo\nundo"),
                         ["error undo", "error redo", "ok", "error redo", "ok", "error undo", "ok", "error redo", "ok", "ok",
                          "error redo", "ok", "error undo"])


class NoForm(unittest.TestCase):
    def test_lines(self):
        session = Session(START)
        lines = ["", " ", "  ", "help", "Ring", "RING", "event", "all", "trial", "forecast", "needless",
                 "ring now", "pairs all", "log 1", "undo 1", "redo 1", "undo undo", "worse", "worse x", "worse x y z",
                 "can", "can j", "can j x 0", "item", "item a b", "judge", "judge l", "judge l rises now", "drift", "drift j",
                 "drift j rises now", "reset", "reset j k", "answer", "answer j", "answer j x", "answer j x 0 1", "drop",
                 "drop 0 1", "grades 2",
                 "item  w", "worse  x y", "worse x  y", "answer j  x 0", "answer  j x 0", "drop  0", "judge l  rises",
                 " item w", "item w ", " undo", "undo ", "ring ", " ring", "log ", " log", "pairs ", " answer j x 0",
                 "answer j x 0 ", "reset j ", "drop 0 ", "item ", "judge  rises", "can j ", "worse x ",
                 "drop 00", "drop 01", "drop 007", "drop 1000", "drop 0000", "drop +1", "drop -1", "drop -0", "drop x",
                 "drop 1x", "drop 1.", "drop 1_0", "drop 0x1", "drop zero",
                 "answer j x 00", "answer j x 10", "answer j x -1", "answer j x +1", "answer j x a", "answer j x",
                 "Answer j x 0", "ITEM w"]
        for line in lines:
            self.assertEqual(session.obey(line), "error command", repr(line))
        self.assertEqual(session.obey("log"), format_log(START))
        self.assertEqual(session.obey("undo"), "error undo")

    def test_drop_0(self):
        session = after(START, "answer j x 0", "answer j y 1", "drop 0")
        self.assertEqual(session.obey("log").split("\n")[-1], "answer j y 1")
        self.assertEqual(session.play("drop 00\ndrop 0\ndrop 0"), ["error command", "ok", "error place 0"])


class Play(unittest.TestCase):
    def test_several_lines(self):
        session = Session(START)
        self.assertEqual(session.play("answer j x 0\nanswer j y 1\npairs\nworse x y\nundo\npairs"),
                         ["ok", "ok", "x<y", "yes", "ok", "none"])
        # The session goes on.
        self.assertEqual(session.play("redo"), ["ok"])
        self.assertEqual(session.play("pairs\nring\n"), ["x<y", "none", "error command"])

    def test_empty_lines(self):
        wrong = "error command"
        self.assertEqual(Session(START).play(""), [wrong])
        self.assertEqual(Session(START).play("\n"), [wrong, wrong])
        self.assertEqual(Session(START).play("\n\nring\n\n"), [wrong, wrong, "none", wrong, wrong])
        self.assertEqual(Session(START).play("item w\n"), ["ok", wrong])

    def test_it_is_the_same_as_line_by_line(self):
        random = Random(333)
        words = ["answer", "reset", "drop", "item", "judge", "drift", "undo", "redo", "ring", "worse", "can", "pairs", "log",
                 "j", "k", "x", "y", "w", "0", "1", "9", "rises", "falls", "stays", ""]
        forms = [["answer", "j", "x", "0"], ["answer", "j", "y", "1"], ["reset", "j"], ["undo"], ["redo"], ["drop", "0"],
                 ["item", "w"], ["judge", "l", "rises"], ["drift", "j", "falls"], ["worse", "x", "y"], ["can", "j", "x"]]
        for _ in range(60):
            lines = []
            for _ in range(random.randint(1, 12)):
                if random.random() < 0.6:
                    lines.append(" ".join(random.choice(forms)))
                else:
                    lines.append(" ".join(random.choice(words) for _ in range(random.randint(1, 4))))
            one, other = Session(START), Session(START)
            self.assertEqual(one.play("\n".join(lines)), [other.obey(line) for line in lines])
            self.assertEqual(one.obey("log"), other.obey("log"))


class Rows(unittest.TestCase):
    def test_replies_behind_each_change(self):
        random = Random(334)
        replies = {}
        for _ in range(40):
            session = Session(START)
            states, at = [START], 0
            for _ in range(15):
                log = states[at]
                item, judge = random.choice(log.item_names), random.choice(log.judges)[0]
                grade, place = random.randint(0, 2), random.randint(0, 4)
                drift = random.choice(helpers.DRIFTS)
                line, call = random.choice([
                    (f"answer {judge} {item} {grade}", lambda: log.with_event(("answer", judge, item, grade))),
                    (f"answer {judge} {item} {grade}", lambda: log.with_event(("answer", judge, item, grade))),
                    (f"reset {judge}", lambda: log.with_event(("reset", judge))),
                    (f"drop {place}", lambda: log.without_event(place)), ("item w", lambda: log.with_item("w")),
                    ("judge l falls", lambda: log.with_judge("l", "falls")),
                    (f"drift {judge} {drift}", lambda: log.with_drift(judge, drift)), ("undo", None), ("redo", None)])
                reply = session.obey(line)
                if line in ("undo", "redo"):
                    to = at + (1 if line == "redo" else -1)
                    self.assertEqual(reply, "ok" if 0 <= to < len(states) else f"error {line}")
                    at = to if reply == "ok" else at
                elif helpers.raised(call):
                    self.assertIn(reply, (f"error place {place}", "error taken w", "error taken l"))
                else:
                    self.assertEqual(reply, "ok")
                    states, at = states[:at + 1] + [call()], at + 1
                replies[reply] = replies.get(reply, 0) + 1
                log = states[at]
                self.assertEqual(session.obey("log"), format_log(log))
                self.assertEqual(session.obey("pairs") == "contradiction", contradicts(log))
        self.assertGreater(len(replies), 6)


if __name__ == "__main__":
    unittest.main()
