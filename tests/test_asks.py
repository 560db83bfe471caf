"""Points 49 to 52: what asks can tell, open items, and answers that would prove something."""

import unittest
from copy import deepcopy
from itertools import product
from random import Random

import helpers
from helpers import contradictory_logs, contradicts, explained_logs, explained_by, parts_of, raised
from risingbars.asks import best_asks, best_gain, could_prove, even_qualities, is_open, open_answers, outcomes
from risingbars.asks import quiet_grades, sure_gain
from risingbars.errors import TooLarge, Unexplained, UnknownItem, UnknownJudge
from risingbars.logs import Log

RING = Log(["x", "y"], 1, [("j", "rises")], [("answer", "j", "x", 0), ("answer", "j", "x", 1)])
OPEN = Log(["x", "y", "z"], 2, [("j", "rises"), ("k", "falls"), ("i", "stays")], [
    ("answer", "i", "x", 0), ("answer", "i", "y", 1)])


def literal_pairs(log):
    """Point 49: the sure pairs, in order."""
    below = helpers.below(log)
    return [pair for pair in product(log.item_names, log.item_names) if pair[0] in below[pair[1]]]


def behind(log, *rows):
    """The log with these answers behind the others."""
    return Log(log.item_names, log.grades, log.judges, log.events + [("answer", *row) for row in rows])


def literal_outcomes(log, judge, item):
    """Point 49."""
    logs = [(grade, behind(log, (judge, item, grade))) for grade in range(log.grades + 1)]
    known = literal_pairs(log)
    return [(grade, [pair for pair in literal_pairs(more) if pair not in known])
            for grade, more in logs if not contradicts(more)]


def all_asks(log):
    return [(judge, item) for judge, _ in log.judges for item in log.item_names]


def full_log(many, drift="rises"):
    """A log of two items with so many events."""
    return Log(["x", "y"], 1, [("j", drift)], [("answer", "j", "x", 0)] * many)


class Outcomes(unittest.TestCase):
    def test_who_rises_and_who_falls(self):
        log = Log(["x", "y", "z"], 2, [("j", "rises"), ("k", "falls")], [
            ("answer", "j", "x", 1), ("answer", "k", "x", 1), ("answer", "j", "y", 0)])
        self.assertEqual(outcomes(log, "j", "x"), [(0, []), (1, [("y", "x")])])
        self.assertEqual(outcomes(log, "j", "z"), [(0, []), (1, [("y", "z")]), (2, [("x", "z"), ("y", "z")])])
        self.assertEqual(outcomes(log, "k", "z"), [(0, [("z", "x")]), (1, []), (2, [])])
        self.assertEqual((quiet_grades(log, "j", "z"), quiet_grades(log, "k", "z")), ([0], [1, 2]))
        self.assertEqual((sure_gain(log, "j", "z"), best_gain(log, "j", "z")), (0, 2))

    def test_who_stays(self):
        self.assertEqual(outcomes(OPEN, "i", "z"), [(0, [("z", "y")]), (1, [("x", "z")]), (2, [("x", "z"), ("y", "z")])])
        self.assertEqual((sure_gain(OPEN, "i", "z"), best_gain(OPEN, "i", "z")), (1, 2))
        self.assertEqual(quiet_grades(OPEN, "i", "z"), [])
        self.assertEqual(outcomes(OPEN, "i", "x"), [(0, [])])
        self.assertEqual((sure_gain(OPEN, "i", "x"), best_gain(OPEN, "i", "x")), (0, 0))
        self.assertEqual(best_asks(OPEN), [("i", "z")])

    def test_what_follows_from_ways(self):
        # That z is better than y makes it better than x, too, and w better than all.
        log = Log(["w", "z", "y", "x"], 1, [("j", "rises")], [
            ("answer", "j", "x", 0), ("answer", "j", "y", 1), ("reset", "j"), ("answer", "j", "z", 0),
            ("answer", "j", "w", 1), ("reset", "j"), ("answer", "j", "y", 0)])
        told = [("y", "w"), ("y", "z"), ("x", "w"), ("x", "z")]
        self.assertEqual(outcomes(log, "j", "z"), [(0, []), (1, told)])

    def test_a_reset_behind_the_answers(self):
        for drift in ("rises", "falls", "stays"):
            log = Log(["x", "y"], 1, [("j", drift)], [("answer", "j", "x", 0), ("reset", "j")])
            self.assertEqual(outcomes(log, "j", "y"), [(0, []), (1, [])])

    def test_small_logs(self):
        gains = 0
        for log in explained_logs(241, 300) + helpers.random_rankings(242, 10, items="dcba"):
            before = parts_of(log)
            for judge, item in all_asks(log):
                told = literal_outcomes(log, judge, item)
                self.assertEqual(outcomes(log, judge, item), told)
                grades = [grade for grade, _ in told]
                self.assertEqual(grades, list(range(grades[0], grades[-1] + 1)))
                sizes = [len(pairs) for _, pairs in told]
                self.assertEqual(sure_gain(log, judge, item), min(sizes))
                self.assertEqual(best_gain(log, judge, item), max(sizes))
                quiet = [grade for grade, pairs in told if pairs == []]
                self.assertEqual(quiet_grades(log, judge, item), quiet)
                # Point 50.
                drift = dict(log.judges)[judge]
                self.assertTrue(drift == "stays" or {"rises": 0, "falls": log.grades}[drift] in quiet)
                gains += min(sizes) > 0
            self.assertEqual(parts_of(log), before)
        self.assertGreater(gains, 20)

    def test_best_asks_of_small_logs(self):
        ties = 0
        for log in explained_logs(243, 150):
            gains = {}
            for judge, item in all_asks(log):
                sizes = [len(pairs) for _, pairs in literal_outcomes(log, judge, item)]
                gains[judge, item] = (min(sizes), max(sizes))
            sure = max(least for least, _ in gains.values())
            best = max(most for least, most in gains.values() if least == sure)
            told = [ask for ask in all_asks(log) if gains[ask] == (sure, best)]
            self.assertEqual(best_asks(log), told)
            ties += 1 < len(told) < len(gains)
        self.assertGreater(ties, 30)

    def test_the_sure_gain_counts_ahead_of_the_best_gain(self):
        log = Log(["x", "y", "z"], 2, [("j", "rises"), ("i", "stays")], [
            ("answer", "j", "x", 1), ("answer", "j", "y", 0), ("answer", "i", "x", 0)])
        self.assertEqual((sure_gain(log, "j", "z"), best_gain(log, "j", "z")), (0, 2))
        self.assertEqual(best_asks(log), [("j", "z")])
        log = log.with_event(("answer", "i", "y", 1))
        self.assertEqual((sure_gain(log, "i", "z"), best_gain(log, "i", "z")), (1, 2))
        self.assertEqual(best_asks(log), [("i", "z")])

    def test_without_events(self):
        log = Log(["x", "y"], 1, [("j", "rises"), ("i", "stays")], [])
        self.assertEqual(best_asks(log), [("j", "x"), ("j", "y"), ("i", "x"), ("i", "y")])
        self.assertEqual(outcomes(log, "i", "x"), [(0, []), (1, [])])

    def test_errors_in_their_order(self):
        for call in (outcomes, sure_gain, best_gain, quiet_grades):
            self.assertEqual(raised(call, RING, "k", "z"), (Unexplained,))
            for log in (OPEN, full_log(120)):
                self.assertEqual(raised(call, log, "x", "w"), (UnknownJudge, "x"))
                self.assertEqual(raised(call, log, "j", "w"), (UnknownItem, "w"))
                self.assertEqual(raised(call, log, "j", "j"), (UnknownItem, "j"))
            self.assertEqual(raised(call, full_log(120), "j", "x"), (TooLarge,))
            self.assertIsNone(raised(call, full_log(119), "j", "x"))
        self.assertEqual(raised(best_asks, full_log(120)), (TooLarge,))
        self.assertIsNone(raised(best_asks, full_log(119)))
        full_ring = Log(["x"], 1, [("j", "rises")], [("answer", "j", "x", 0), ("answer", "j", "x", 1)] * 60)
        for log in [full_ring, RING] + contradictory_logs(244, 10):
            self.assertEqual(raised(best_asks, log), (Unexplained,))
            self.assertEqual(raised(outcomes, log, log.judges[0][0], log.item_names[0]), (Unexplained,))


class OpenItems(unittest.TestCase):
    def test_single(self):
        self.assertIs(is_open(OPEN, "x", "y"), False)
        self.assertIs(is_open(OPEN, "y", "x"), False)
        self.assertIs(is_open(OPEN, "x", "z"), True)
        self.assertIs(is_open(OPEN, "z", "x"), True)
        self.assertIs(is_open(OPEN, "z", "z"), False)
        self.assertIsNone(even_qualities(OPEN, "x", "y"))
        self.assertEqual(open_answers(OPEN, "x", "z", []), [])
        self.assertIsNone(open_answers(OPEN, "x", "y", []))
        self.assertIsNone(open_answers(OPEN, "z", "z", [("j", "x")]))

    def test_small_logs(self):
        counts = {True: 0, False: 0}
        for log in explained_logs(245, 120):
            before = parts_of(log)
            below = helpers.below(log)
            for one, other in product(log.item_names, log.item_names):
                told = one != other and one not in below[other] and other not in below[one]
                self.assertIs(is_open(log, one, other), told)
                counts[told] += 1
                qualities = even_qualities(log, one, other)
                if told or one == other:
                    self.assertEqual(sorted(qualities), sorted(log.item_names))
                    self.assertTrue(explained_by(log, qualities))
                    self.assertEqual(qualities[one], qualities[other])
                else:
                    self.assertIsNone(qualities)
            self.assertEqual(parts_of(log), before)
        self.assertGreater(min(counts.values()), 200)

    def test_even_qualities_are_none_exactly_if_there_are_none(self):
        for log in explained_logs(246, 40, most_events=7):
            told = [row for row in helpers.all_qualities(log) if explained_by(log, row)]
            for one, other in product(log.item_names, log.item_names):
                some = any(row[one] == row[other] for row in told)
                self.assertIs(even_qualities(log, one, other) is not None, some)

    def test_open_answers_of_small_logs(self):
        random = Random(247)
        tried = {"rises": 0, "falls": 0, "stays": 0}
        for log in explained_logs(248, 200):
            before = parts_of(log)
            for one, other in product(log.item_names, log.item_names):
                asks = random.choices(all_asks(log), k=random.randint(0, 6))
                handed = list(asks)
                told = open_answers(log, one, other, asks)
                self.assertEqual(asks, handed)
                if not is_open(log, one, other):
                    self.assertIsNone(told)
                    continue
                self.assertEqual(len(told), len(asks))
                more = behind(log, *[(*ask, grade) for ask, grade in zip(asks, told)])
                self.assertFalse(contradicts(more))
                below = helpers.below(more)
                self.assertNotIn(one, below[other])
                self.assertNotIn(other, below[one])
                for judge, _ in asks:
                    tried[dict(log.judges)[judge]] += 1
            self.assertEqual(parts_of(log), before)
        self.assertGreater(min(tried.values()), 300)

    def test_the_same_ask_again_and_again(self):
        for drift in ("rises", "falls", "stays"):
            log = Log(["x", "y", "z"], 3, [("j", drift)], [("answer", "j", "z", 2)])
            for ask in (("j", "x"), ("j", "y"), ("j", "z")):
                told = open_answers(log, "x", "y", [ask] * 50)
                more = behind(log, *[(*ask, grade) for grade in told])
                self.assertIs(is_open(more, "x", "y"), True)

    def test_errors_in_their_order(self):
        for call in (is_open, even_qualities, lambda log, one, other: open_answers(log, one, other, [("q", "q")])):
            self.assertEqual(raised(call, RING, "v", "w"), (Unexplained,))
            self.assertEqual(raised(call, OPEN, "v", "w"), (UnknownItem, "v"))
            self.assertEqual(raised(call, OPEN, "x", "w"), (UnknownItem, "w"))
            self.assertEqual(raised(call, OPEN, "j", "x"), (UnknownItem, "j"))
            self.assertEqual(raised(call, OPEN, "w", "w"), (UnknownItem, "w"))

    def test_errors_of_asks(self):
        for one, other in (("x", "z"), ("x", "y"), ("x", "x")):
            for asks, told in (([("j", "x"), ("q", "w"), ("k", "w")], (UnknownJudge, "q")),
                               ([("j", "x"), ("k", "w"), ("q", "x")], (UnknownItem, "w")),
                               ([("x", "x")], (UnknownJudge, "x")), ([("k", "k")], (UnknownItem, "k")),
                               ([("j", "x")] * 200 + [("j", "w")], (UnknownItem, "w")),
                               ([("j", "x")] * 119, (TooLarge,))):
                self.assertEqual(raised(open_answers, OPEN, one, other, asks), told)
            self.assertIsNone(raised(open_answers, OPEN, one, other, [("j", "x")] * 118))
        self.assertEqual(len(open_answers(OPEN, "x", "z", [("i", "z"), ("j", "x")] * 59)), 118)
        self.assertEqual(raised(open_answers, full_log(120), "x", "y", [("j", "x")]), (TooLarge,))
        self.assertEqual(open_answers(full_log(120), "x", "y", []), [])


def literal_proof(log, worse, better, most):
    """Point 52, by all rows."""
    answers = [(judge, item, grade) for judge, item in all_asks(log) for grade in range(log.grades + 1)]
    for many in range(most + 1):
        for row in product(answers, repeat=many):
            more = behind(log, *row)
            below = helpers.below(more)
            if not any(item in below[item] for item in below) and worse in below[better]:
                return list(row)
    return None


class Proofs(unittest.TestCase):
    def test_single(self):
        for drift, told in (("rises", [("j", "x", 0), ("j", "y", 1)]), ("falls", [("j", "y", 1), ("j", "x", 0)]),
                            ("stays", [("j", "x", 0), ("j", "y", 1)])):
            log = Log(["x", "y"], 1, [("j", drift)], [])
            for most in (2, 3):
                self.assertEqual(could_prove(log, "x", "y", most), told)
            for most in (0, 1):
                self.assertIsNone(could_prove(log, "x", "y", most))
        self.assertEqual(could_prove(OPEN, "x", "y", 0), [])
        self.assertEqual(could_prove(OPEN, "x", "y", 2), [])
        self.assertEqual(could_prove(OPEN, "x", "z", 1), [("i", "z", 1)])
        self.assertEqual(could_prove(OPEN, "z", "x", 1), None)
        self.assertIsNone(could_prove(OPEN, "y", "x", 2))
        self.assertIsNone(could_prove(OPEN, "z", "z", 2))

    def test_judges_of_several_names_in_the_order_of_the_log(self):
        for judges in (["k", "j"], ["j", "k"]):
            log = Log(["y", "x"], 1, [(judge, "rises") for judge in judges], [])
            self.assertEqual(could_prove(log, "x", "y", 3), [(judges[0], "x", 0), (judges[0], "y", 1)])
            self.assertEqual(could_prove(log, "y", "x", 3), [(judges[0], "y", 0), (judges[0], "x", 1)])

    def test_all_rows_of_small_logs(self):
        counts = [0, 0, 0, 0, 0]
        random = Random(249)
        for drifts in list(product(helpers.DRIFTS, repeat=2)) * 3:
            names = random.choice([["x", "y"], ["y", "x"]])
            events = [("answer", "j", random.choice("xy"), random.randint(0, 1)) for _ in range(random.randint(0, 3))]
            log = Log(names, 1, [("k", drifts[0]), ("j", drifts[1])], events)
            if contradicts(log):
                continue
            before = parts_of(log)
            for one, other in product(names, names):
                for most in range(3):
                    told = could_prove(log, one, other, most)
                    self.assertEqual(told, literal_proof(log, one, other, most))
                    counts[4 if told is None else len(told)] += 1
            self.assertEqual(parts_of(log), before)
        self.assertGreater(min(counts[:3] + counts[4:]), 10)

    def test_rows_of_three_answers(self):
        # Only pairs that two answers do not prove are searched for among all rows of three answers.
        lengths = []
        for drift in helpers.DRIFTS:
            log = Log(["x", "y", "z"], 2, [("j", drift)], [
                ("answer", "j", "y", 1), ("reset", "j"), ("answer", "j", "z", 2 if drift == "falls" else 0)])
            for one, other in product("xyz", "xyz"):
                told = could_prove(log, one, other, 3)
                self.assertEqual(told, literal_proof(log, one, other, 3))
                lengths.append(None if told is None else len(told))
        self.assertIn(1, lengths)
        self.assertIn(2, lengths)
        log = Log(["x", "y"], 1, [("j", "falls")], [
            ("answer", "j", "x", 0), ("answer", "j", "y", 0), ("answer", "j", "x", 1)])
        for one, other in product("xy", "xy"):
            self.assertEqual(could_prove(log, one, other, 3), literal_proof(log, one, other, 3))

    def test_errors_in_their_order(self):
        many = Log([f"i{at}" for at in range(20)], 9, [(f"j{at}", "stays") for at in range(8)], [])
        full_ring = Log(["x"], 1, [("j", "rises")], [("answer", "j", "x", 0), ("answer", "j", "x", 1)] * 60)
        for most in range(4):
            self.assertEqual(raised(could_prove, RING, "v", "w", most), (Unexplained,))
            self.assertEqual(raised(could_prove, full_ring, "v", "x", most), (Unexplained,))
            for log in (OPEN, many, full_log(120)):
                self.assertEqual(raised(could_prove, log, "v", "w", most), (UnknownItem, "v"))
                self.assertEqual(raised(could_prove, log, log.item_names[1], "w", most), (UnknownItem, "w"))
        # 1600 answers: one of them is not too many, two are.
        self.assertIsNone(could_prove(many, "i0", "i0", 1))
        self.assertEqual(raised(could_prove, many, "i0", "i0", 2), (TooLarge,))
        self.assertIsNone(could_prove(many, "i0", "i1", 0))

    def test_5000_rows(self):
        # 70 * 70 = 4900 and 72 * 72 = 5184; 16 * 16 * 16 = 4096 and 18 * 18 * 18 = 5832.
        seventy = Log(["a", "b", "c", "d", "e", "f", "g"], 9, [("j", "rises")], [])
        self.assertEqual(could_prove(seventy, "a", "b", 2), [("j", "a", 0), ("j", "b", 1)])
        self.assertEqual(raised(could_prove, seventy, "a", "b", 3), (TooLarge,))
        more = Log(["a", "b", "c", "d", "e", "f", "g", "h", "i"], 7, [("j", "rises")], [])
        self.assertEqual(raised(could_prove, more, "a", "b", 2), (TooLarge,))
        self.assertEqual(could_prove(more, "a", "b", 1), None)
        sixteen = Log(["a", "b"], 7, [("j", "rises")], [])
        self.assertEqual(could_prove(sixteen, "a", "b", 3), [("j", "a", 0), ("j", "b", 1)])
        eighteen = Log(["a", "b"], 8, [("j", "rises")], [])
        self.assertEqual(raised(could_prove, eighteen, "a", "b", 3), (TooLarge,))
        self.assertEqual(could_prove(eighteen, "a", "b", 2), [("j", "a", 0), ("j", "b", 1)])

    def test_120_events(self):
        for most in range(4):
            self.assertIsNone(raised(could_prove, full_log(120 - most), "x", "y", most))
            if most > 0:
                self.assertEqual(raised(could_prove, full_log(121 - most), "x", "y", most), (TooLarge,))
                self.assertEqual(raised(could_prove, full_log(121 - most), "x", "x", most), (TooLarge,))
        sure = Log(["x", "y"], 1, [("j", "rises")], [("answer", "j", "x", 0), ("answer", "j", "y", 1)]
                   + [("reset", "j")] * 118)
        self.assertEqual(could_prove(sure, "x", "y", 0), [])
        self.assertEqual(raised(could_prove, sure, "x", "y", 1), (TooLarge,))


class NewEachTime(unittest.TestCase):
    def test_what_is_returned(self):
        calls = [lambda: outcomes(OPEN, "i", "z"), lambda: quiet_grades(OPEN, "j", "z"), lambda: best_asks(OPEN),
                 lambda: even_qualities(OPEN, "x", "z"), lambda: open_answers(OPEN, "x", "z", [("i", "z")]),
                 lambda: could_prove(OPEN, "x", "z", 1)]
        for call in calls:
            before = deepcopy(call())
            for part in call():
                if isinstance(part, tuple) and isinstance(part[-1], list):
                    part[-1].clear()
            call().clear()
            self.assertEqual(call(), before)
            self.assertTrue(before)


if __name__ == "__main__":
    unittest.main()
