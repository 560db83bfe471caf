"""Logs at the bounds: each function of strikes, drifts, asks, worlds, panels, desk, report and session is quick."""

import unittest
from random import Random

from bounds import ITEMS, Quick, logs_of_bounds
from risingbars import asks, drifts, panels, report, strikes
from risingbars.desk import Desk
from risingbars.errors import TooLarge
from risingbars.explain import Explanation, check_explanation, explains, ring_of
from risingbars.grades import forecast
from risingbars.logs import Log
from risingbars.notation import format_log
from risingbars.pairs import sure_pairs
from risingbars.session import Session
from risingbars.worlds import World

ASKS = [(f"j{at % 8}", ITEMS[at % 20]) for at in range(20)]


def offices_of_bounds():
    """Six offices, with 8 judges and 120 events together, who agree, and some who do not."""
    random = Random(351)
    judges = [("a", "rises"), ("b", "stays")]
    agreed, any_grades = [], []
    for number in range(6):
        own = judges if number in (0, 3) else judges[number % 2:number % 2 + 1]
        rows = [(own[at % len(own)][0], (at * 7 + number) % 20) for at in range(20)]
        agreed.append(Log(ITEMS, 9, own, [("answer", judge, ITEMS[item], item // 2) for judge, item in rows]))
        any_grades.append(Log(ITEMS, 9, own, [
            ("answer", judge, ITEMS[item], random.randint(item // 4, 9)) for judge, item in rows]))
    return [agreed, agreed[:5] + any_grades[5:], any_grades]


class Strikes(Quick):
    def test_logs(self):
        for key, log in logs_of_bounds().items():
            with self.subTest(key=key):
                wrong = ring_of(log) is not None
                self.assertEqual(self.assert_quick(strikes.rings_apart, log) != [], wrong)
                self.assertIs(self.assert_quick(strikes.does_free, log, []), not wrong)
                self.assertIs(self.assert_quick(strikes.does_free, log, log.answers()), True)
                self.assertEqual(self.assert_quick(strikes.least_strikes, log, places=[]), (TooLarge,))

    def test_yes_and_no(self):
        for drift in ("rises", "falls"):
            log = Log(ITEMS, 1, [("j", drift)], [("answer", "j", ITEMS[at % 20], at // 20 % 2) for at in range(120)])
            told, made = self.assert_quick(strikes.fewest_strikes, log, "j")
            self.assertEqual(len(told), len(made))
            self.assertIs(strikes.does_free(log, told), True)

    def test_10_places_of_40_answers(self):
        for drift in ("rises", "stays"):
            for grades in (1, 9):
                log = Log(ITEMS, grades, [("j", drift)], [
                    ("answer", "j", ITEMS[at % 20], at * 7 % (grades + 1)) for at in range(40)])
                self.assert_quick(strikes.least_strikes, log, places=log.answers()[:10])
                self.assert_quick(strikes.least_strikes, log, places=log.answers()[::4])
            up = Log(ITEMS, 9, [("j", drift)], [("answer", "j", ITEMS[at // 2], at // 4) for at in range(30)]
                     + [("answer", "j", "i19", at) for at in range(10)])
            self.assertNotEqual(self.assert_quick(strikes.least_strikes, up, places=up.answers()[30:]), [])


class Drifts(Quick):
    def test_logs(self):
        for key, log in logs_of_bounds().items():
            with self.subTest(key=key):
                wrong = ring_of(log) is not None
                rows = self.assert_quick(drifts.possible_drifts, log)
                own = tuple(drift for _, drift in log.judges)
                self.assertTrue("stays" in own or (own in rows) is not wrong)
                lots = self.assert_quick(drifts.staying_lots, log)
                self.assertEqual(lots == [], wrong)
                self.assert_quick(drifts.may_stay, log, "j0")
                places = self.assert_quick(drifts.reset_places, log)
                self.assertIs(self.assert_quick(drifts.does_part, log, places), True)
                self.assertEqual(self.assert_quick(drifts.rings_for_resets, log) != [], wrong)
                self.assertEqual(self.assert_quick(drifts.least_resets, log), (TooLarge,))

    def test_10_places_of_40_answers(self):
        events = [("answer", "j0", ITEMS[at], 9 * at % 10) for at in range(11)]
        events += [event for at in range(29) for event in (("answer", "j1", ITEMS[at % 20], at % 10), ("reset", "j1"))]
        log = Log(ITEMS, 9, [("j0", "stays"), ("j1", "rises")], events)
        self.assertEqual(self.assert_quick(drifts.least_resets, log), [[]])
        log = Log(ITEMS, 9, [("j0", "stays"), ("j1", "rises")], [
            ("answer", "j0", "i0", event[3]) if event[:2] == ("answer", "j0") else event for event in events])
        self.assertEqual(self.assert_quick(drifts.least_resets, log), [list(range(1, 11))])


class Asks(Quick):
    def test_logs(self):
        for key, full in logs_of_bounds().items():
            log = full.beginning(119)
            with self.subTest(key=key):
                wrong = ring_of(log) is not None
                self.assert_explained_or_not(
                    [asks.best_asks, lambda told: asks.outcomes(told, "j0", "i3"),
                     lambda told: asks.sure_gain(told, "j0", "i3"), lambda told: asks.best_gain(told, "j0", "i3"),
                     lambda told: asks.quiet_grades(told, "j0", "i3"), lambda told: asks.is_open(told, "i3", "i4"),
                     lambda told: asks.even_qualities(told, "i3", "i4"),
                     lambda told: asks.open_answers(told, "i3", "i4", [("j0", "i3")]),
                     lambda told: asks.could_prove(told, "i19", "i0", 1)], log, not wrong)
                few = full.beginning(40)
                if ring_of(few) is None:
                    told = self.assert_quick(asks.open_answers, few, "i17", "i18", ASKS * 4)
                    self.assertEqual(told is not None, asks.is_open(few, "i17", "i18"))

    def test_without_events(self):
        for drift in ("rises", "falls", "stays"):
            log = Log(ITEMS, 9, [(f"j{at}", drift) for at in range(8)], [])
            self.assertEqual(len(self.assert_quick(asks.best_asks, log)), 160)
            told = self.assert_quick(asks.open_answers, log, "i3", "i4", ASKS * 6)
            self.assertEqual(len(told), 120)

    def test_5000_rows(self):
        log = Log(["x", "y"], 1, [(f"j{at}", "stays") for at in range(4)], [
            ("answer", f"j{at % 4}", "xy"[at // 4 % 2], 1) for at in range(117)])
        self.assertIsNone(self.assert_quick(asks.could_prove, log, "x", "y", 3))
        log = Log(ITEMS[:7], 9, [("j0", "stays")], [("answer", "j0", ITEMS[at % 7], at % 7) for at in range(118)])
        self.assertIsNone(self.assert_quick(asks.could_prove, log, "i3", "i2", 2))
        self.assertEqual(self.assert_quick(asks.could_prove, log, "i2", "i3", 2), [])


class Worlds(Quick):
    def test_120_events(self):
        random = Random(352)
        judges = [(f"j{at}", ("rises", "falls", "stays")[at % 3], sorted(random.sample(range(20), 9)))
                  for at in range(8)]
        world = self.assert_quick(World, 9, {item: at for at, item in enumerate(ITEMS)}, judges)
        for at in range(120):
            self.assert_quick(world.answer, f"j{at % 8}", random.choice(ITEMS))
        log = self.assert_quick(world.log)
        told = Explanation({item: at for at, item in enumerate(ITEMS)}, self.assert_quick(world.bars_at))
        self.assertIs(self.assert_quick(check_explanation, log, told), True)


class Panels(Quick):
    def test_offices(self):
        for number, logs in enumerate(offices_of_bounds()):
            whole = self.assert_quick(panels.joined, logs)
            self.assertEqual((len(whole.judges), len(whole.events)), (8, 120))
            told = {item: at for at, item in enumerate(ITEMS)}
            self.assertIs(self.assert_quick(panels.explain_all, logs, told), explains(whole, told))
            wrong = self.assert_quick(panels.ring_in, logs) is not None
            self.assertIs(wrong, number > 0)
            self.assertEqual(self.assert_quick(panels.quarrels, logs) != [], wrong)
            self.assertEqual(self.assert_quick(panels.peaces, logs) != [()], wrong)
            self.assert_explained_or_not([panels.together], logs, not wrong)


class Desks(Quick):
    def test_logs(self):
        for key, log in logs_of_bounds().items():
            with self.subTest(key=key):
                desk = Desk(log)
                ring = self.assert_quick(desk.answer, "ring")
                self.assertEqual(self.assert_quick(desk.answer, "pairs"), None if ring else sure_pairs(log))
                self.assertEqual(self.assert_quick(desk.answer, "forecast"), None if ring else forecast(log))
                self.assert_quick(desk.answer, "needless")
                self.assertEqual(desk.found, 4)
                self.assert_quick(desk.change_all, [("no event", 0)] * 60 + [("drift", "j0", "falls")] * 60)
                self.assertEqual(len(desk.log_now().events), 60)
                pairs = self.assert_quick(report.pair_table, log)
                grades = self.assert_quick(report.forecast_table, log)
                if ring:
                    self.assertEqual((pairs, grades), (f"ring: {report.ring_line(ring)}",) * 2)
                else:
                    self.assertEqual((len(pairs.split("\n")), len(grades.split("\n"))), (20, 8))

    def test_lines(self):
        for key, log in logs_of_bounds().items():
            session = Session(log)
            with self.subTest(key=key):
                for line in ("ring", "pairs", "worse i3 i4", "can j3 i7", "drop 60", "ring", "pairs", "answer j0 i3 4",
                             "undo", "undo", "redo", "drift j0 stays", "pairs", "can j0 i0"):
                    self.assertNotIn("error", self.assert_quick(session.obey, line))
                self.assertEqual(self.assert_quick(session.obey, "reset j0"), "ok")
                self.assertEqual(self.assert_quick(session.obey, "reset j0"), "error large")
                self.assertEqual(self.assert_quick(session.play, "log\nundo\nundo\nundo\nlog")[-1], format_log(log))


if __name__ == "__main__":
    unittest.main()
