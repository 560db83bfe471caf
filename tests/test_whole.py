"""What the document promises over the whole program: the parts say the same of the same logs."""

import unittest
from random import Random

from helpers import DRIFTS, all_qualities, contradicts, explained_logs, plain_log, random_logs
from risingbars.asks import outcomes
from risingbars.cases import Case
from risingbars.desk import Desk
from risingbars.explain import depths_of, explains, ring_of
from risingbars.grades import forecast
from risingbars.logs import Log
from risingbars.notation import format_log, parse_log
from risingbars.pairs import sure_pairs
from risingbars.panels import explain_all, joined, quarrels, together
from risingbars.report import forecast_table, pair_table
from risingbars.same import needless_answers, say_same, thinned
from risingbars.session import Session
from risingbars.worlds import World

QUESTIONS = ("ring", "pairs", "forecast", "needless")


def offices_of(log):
    """The logs of each judge alone."""
    return [Log(log.item_names, log.grades, [judge], [event for event in log.events if event[1] == judge[0]])
            for judge in log.judges]


def lines_about(log):
    """A line for each question about a log."""
    lines = ["ring", "pairs", "log"]
    lines += [f"worse {one} {other}" for one in log.item_names for other in log.item_names]
    return lines + [f"can {judge} {item}" for judge, _ in log.judges for item in log.item_names]


def lines_that_make(log):
    """The lines that make the log out of its first item and its first judge, without events."""
    return ([f"item {name}" for name in log.item_names[1:]] + [f"judge {name} {drift}" for name, drift in log.judges[1:]]
            + format_log(log).split("\n")[len(log.item_names) + 1 + len(log.judges):])


def random_world(seed):
    """A world in which a few things happened, and its qualities."""
    random = Random(seed)
    grades = random.randint(1, 3)
    qualities = {name: random.randint(0, 6) for name in "abcd"[:random.randint(2, 4)]}
    judges = [(name, random.choice(DRIFTS)) for name in "jk"]
    world = World(grades, qualities,
                  [(name, drift, sorted(random.randint(0, 6) for _ in range(grades))) for name, drift in judges])
    for _ in range(random.randint(1, 12)):
        judge, drift = random.choice(judges)
        bars = world.bars_of(judge)
        word = random.random()
        if word < 0.2:
            world.move(judge, [bar + {"rises": 1, "falls": -1, "stays": 0}[drift] for bar in bars])
        elif word < 0.3:
            world.set_anew(judge, sorted(random.randint(0, 6) for _ in range(grades)))
        else:
            world.answer(judge, random.choice(sorted(qualities)))
    return world, qualities


class Written(unittest.TestCase):
    def test_a_log_that_is_formatted_and_parsed_says_the_same(self):
        for log in random_logs(341, 80, most_events=10) + [plain_log()]:
            read = parse_log(format_log(log))
            self.assertIs(say_same(read, log), True)
            one, other = Desk(log), Desk(read)
            for question in QUESTIONS:
                self.assertEqual(one.answer(question), other.answer(question))
            lines = "\n".join(lines_about(log))
            self.assertEqual(Session(log).play(lines), Session(read).play(lines))
            self.assertEqual((pair_table(log), forecast_table(log)), (pair_table(read), forecast_table(read)))

    def test_a_session_makes_the_log_that_it_writes(self):
        for log in random_logs(342, 60, most_events=10):
            session = Session(Log(log.item_names[:1], log.grades, log.judges[:1], []))
            lines = lines_that_make(log)
            if lines:
                self.assertEqual(session.play("\n".join(lines)), ["ok"] * len(lines))
            written = session.obey("log")
            self.assertEqual(written, format_log(log))
            self.assertTrue(parse_log(written).same_as(log))
            lines = "\n".join(lines_about(log))
            self.assertEqual(session.play(lines), Session(log).play(lines))

    def test_a_session_and_a_desk_tell_what_the_functions_tell(self):
        for log in explained_logs(343, 60):
            desk, session = Desk(log), Session(log)
            pairs = sure_pairs(log)
            self.assertEqual(desk.answer("pairs"), pairs)
            self.assertEqual(session.obey("pairs"), " ".join(f"{worse}<{better}" for worse, better in pairs) or "none")
            self.assertEqual(desk.answer("forecast"), forecast(log))
            self.assertEqual(desk.answer("needless"), needless_answers(log))
            for judge, _ in log.judges:
                for item in log.item_names:
                    grades = [grade for grade, _ in outcomes(log, judge, item)]
                    self.assertEqual(session.obey(f"can {judge} {item}"), f"{grades[0]}-{grades[-1]}")


class Offices(unittest.TestCase):
    def test_the_logs_of_each_judge_say_together_what_the_log_says(self):
        rings = 0
        for log in random_logs(344, 100, most_events=10) + [plain_log()]:
            logs = offices_of(log)
            whole = joined(logs)
            self.assertIs(say_same(whole, log), True)
            self.assertEqual(ring_of(log) is None, ring_of(whole) is None)
            self.assertEqual(quarrels(logs) == [], ring_of(log) is None)
            for qualities in all_qualities(log)[:12]:
                self.assertIs(explain_all(logs, qualities), explains(log, qualities))
            if ring_of(log) is not None:
                rings += 1
                continue
            self.assertEqual(sure_pairs(whole), sure_pairs(log))
            alone = [pair for office in logs for pair in sure_pairs(office)]
            self.assertEqual(together(logs), [pair for pair in sure_pairs(log) if pair not in alone])
            for number, (judge, _) in enumerate(log.judges):
                self.assertEqual(forecast(whole)[f"o{number}j0"], forecast(log)[judge])
        self.assertGreater(rings, 15)

    def test_the_thinned_log_says_the_same_in_each_office(self):
        for log in explained_logs(345, 30):
            logs = offices_of(log)
            self.assertIs(say_same(joined([thinned(office) for office in logs]), log), True)


class Worlds(unittest.TestCase):
    def test_their_logs(self):
        sure = 0
        for seed in range(200):
            world, qualities = random_world(seed)
            log = world.log()
            self.assertFalse(contradicts(log))
            self.assertIsNone(ring_of(log))
            self.assertIs(explains(log, qualities), True)
            self.assertIs(Case(log).explains(qualities, world.bars_at()), True)
            desk, session = Desk(log), Session(log)
            self.assertEqual(desk.answer("pairs"), sure_pairs(log))
            self.assertEqual(desk.answer("forecast"), forecast(log))
            self.assertIsNone(desk.answer("ring"))
            for worse, better in desk.answer("pairs"):
                self.assertLess(qualities[worse], qualities[better])
                self.assertLess(depths_of(log)[worse], depths_of(log)[better])
                self.assertEqual(session.obey(f"worse {worse} {better}"), "yes")
                sure += 1
            for judge, _ in log.judges:
                for item in log.item_names:
                    least, greatest = desk.answer("forecast")[judge][item]
                    self.assertTrue(least <= world.would_say(judge, item) <= greatest)
            self.assertIs(explain_all(offices_of(log), qualities), True)
        self.assertGreater(sure, 40)


if __name__ == "__main__":
    unittest.main()
