"""Points 8 and 9: answers, stretches, orders and lost answers."""

import unittest

import helpers
from helpers import DRIFTS, plain_log, random_logs
from risingbars.errors import InvalidPlace, UnknownJudge
from risingbars.logs import Log


def answers(*judges):
    """Events, each an answer of the judge, or a reset of the judge behind a `-`."""
    return [("reset", judge[1:]) if judge[0] == "-" else ("answer", judge, "x", 0) for judge in judges]


def log_of(drift, *judges):
    return Log(["x"], 1, [("j", drift), ("k", "rises")], answers(*judges))


class AskedLog(unittest.TestCase):
    def setUp(self):
        self.log = plain_log()

    def assert_raises(self, error, attribute, value, call, *told):
        with self.subTest(told=told):
            with self.assertRaises(error) as caught:
                call(*told)
            self.assertEqual(getattr(caught.exception, attribute), value)


class Answers(AskedLog):
    def test_drift_of(self):
        self.assertEqual([self.log.drift_of(judge) for judge in ("ann", "bob", "cid")], ["rises", "falls", "stays"])

    def test_answers(self):
        self.assertEqual(self.log.answers(), [0, 1, 2, 4, 5, 6, 8, 9, 10])
        self.assertEqual(Log(["x"], 1, [("j", "rises")], []).answers(), [])
        self.assertEqual(log_of("rises", "-j", "-k").answers(), [])

    def test_answers_of(self):
        self.assertEqual(self.log.answers_of("ann"), [0, 2, 6, 9])
        self.assertEqual(self.log.answers_of("bob"), [1, 5, 8])
        self.assertEqual(self.log.answers_of("cid"), [4, 10])
        self.assertEqual(log_of("rises", "j", "-k").answers_of("k"), [])

    def test_is_answer(self):
        told = [place for place in range(-15, 30) if self.log.is_answer(place)]
        self.assertEqual(told, self.log.answers())
        self.assertIs(self.log.is_answer(0), True)
        self.assertIs(self.log.is_answer(-1), False)

    def test_what_stands_at_a_place(self):
        for place in self.log.answers():
            _, judge, item, grade = self.log.events[place]
            self.assertEqual(self.log.judge_at(place), judge)
            self.assertEqual(self.log.item_at(place), item)
            self.assertEqual(self.log.grade_at(place), grade)

    def test_unknown_judge(self):
        for judge in ("x", "dan", "", "Ann"):
            for call in (self.log.drift_of, self.log.answers_of, self.log.stretches):
                self.assert_raises(UnknownJudge, "name", judge, call, judge)

    def test_places_without_an_answer(self):
        for place in (-100, -11, -1, 3, 7, 11, 12, 500):
            for call in (self.log.grade_at, self.log.item_at, self.log.judge_at, self.log.stretch_of):
                self.assert_raises(InvalidPlace, "place", place, call, place)


class Stretches(AskedLog):
    def test_resets_of_this_judge_and_of_others(self):
        for drift in DRIFTS:
            log = log_of(drift, "-j", "j", "k", "j", "-k", "j", "-j", "-j", "j", "k", "-j")
            self.assertEqual(log.stretches("j"), [[1, 3, 5], [8]])
            self.assertEqual(log.stretches("k"), [[2], [9]])
            self.assertEqual([log.stretch_of(place) for place in (1, 3, 5, 8, 2)],
                             [[1, 3, 5], [1, 3, 5], [1, 3, 5], [8], [2]])

    def test_no_answers(self):
        self.assertEqual(log_of("falls", "-j", "k").stretches("j"), [])

    def test_as_the_document_tells_it(self):
        for log in random_logs(1, 150):
            told = log.answers()
            self.assertEqual(told, [p for p in range(len(log.events)) if helpers.is_answer(log, p)])
            for one in told:
                stretch = [other for other in told if helpers.of_one_stretch(log, one, other)]
                self.assertEqual(log.stretch_of(one), stretch)
                self.assertIn(stretch, log.stretches(log.judge_at(one)))
                for other in told:
                    self.assertIs(log.in_order(one, other), helpers.in_order(log, one, other))
            for judge, _ in log.judges:
                stretches = log.stretches(judge)
                self.assertEqual(sum(stretches, []), log.answers_of(judge))
                self.assertNotIn([], stretches)


class Orders(AskedLog):
    def test_in_order(self):
        told = {"rises": [(0, 0), (0, 2), (2, 2)], "falls": [(0, 0), (2, 0), (2, 2)],
                "stays": [(0, 0), (0, 2), (2, 0), (2, 2)]}
        for drift in DRIFTS:
            log = log_of(drift, "j", "-k", "j", "-j", "j")
            pairs = [(one, other) for one in (0, 2) for other in (0, 2) if log.in_order(one, other)]
            self.assertEqual(pairs, told[drift])
            for pair in ((0, 4), (4, 0), (2, 4), (4, 2)):
                self.assertIs(log.in_order(*pair), False)
            self.assertIs(log.in_order(4, 4), True)

    def test_two_judges(self):
        log = log_of("stays", "j", "k")
        self.assertIs(log.in_order(0, 1), False)
        self.assertIs(log.in_order(1, 0), False)

    def test_places_without_an_answer(self):
        for place in (-1, 3, 11, 12):
            self.assert_raises(InvalidPlace, "place", place, self.log.in_order, place, 0)
            self.assert_raises(InvalidPlace, "place", place, self.log.in_order, 0, place)
        self.assert_raises(InvalidPlace, "place", 7, self.log.in_order, 7, -1)
        self.assert_raises(InvalidPlace, "place", -1, self.log.in_order, -1, 7)


class LostAnswers(AskedLog):
    def test_at_each_place(self):
        log = log_of("rises", "j", "j", "-j", "k", "-k", "j", "-j")
        self.assertEqual([log.stretch_at("j", place) for place in range(8)],
                         [[0, 1], [0, 1], [0, 1], [5], [5], [5], [5], []])
        self.assertEqual([log.stretch_at("k", place) for place in range(8)],
                         [[3], [3], [3], [3], [3], [], [], []])

    def test_first_and_second(self):
        # For each place of the lost answer, from 0 to 3, the answers with which it is in order.
        first = {"rises": [[0, 2], [2], [2], []], "falls": [[], [0], [0], [0, 2]], "stays": [[0, 2]] * 4}
        second = {"rises": [[], [0], [0], [0, 2]], "falls": [[0, 2], [2], [2], []], "stays": [[0, 2]] * 4}
        for drift in DRIFTS:
            log = log_of(drift, "j", "k", "j")
            for place in range(4):
                with self.subTest(drift=drift, place=place):
                    told = [at for at in (0, 1, 2) if log.lost_first("j", place, at)]
                    self.assertEqual(told, first[drift][place])
                    told = [at for at in (0, 1, 2) if log.lost_second("j", place, at)]
                    self.assertEqual(told, second[drift][place])

    def test_results_are_true_or_false(self):
        log = log_of("rises", "j", "-j", "j", "k")
        for call in (log.lost_first, log.lost_second):
            for place in range(5):
                for at in (0, 2, 3):
                    self.assertIn(call("j", place, at), (True, False))

    def test_as_if_the_answer_stood_there(self):
        for log in random_logs(2, 120):
            for judge, _ in log.judges:
                for place in range(len(log.events) + 1):
                    events = log.events[:place] + [("answer", judge, log.item_names[0], 0)] + log.events[place:]
                    longer = Log(log.item_names, log.grades, log.judges, events)
                    later = {at: at if at < place else at + 1 for at in log.answers()}
                    self.assertEqual(log.stretch_at(judge, place),
                                     [at for at in later if helpers.of_one_stretch(longer, place, later[at])])
                    for at in later:
                        self.assertIs(log.lost_first(judge, place, at), helpers.in_order(longer, place, later[at]))
                        self.assertIs(log.lost_second(judge, place, at), helpers.in_order(longer, later[at], place))

    def test_errors_and_their_order(self):
        for call in (self.log.lost_first, self.log.lost_second):
            self.assert_raises(UnknownJudge, "name", "dan", call, "dan", -1, -1)
            for place in (-1, 12, 99):
                self.assert_raises(InvalidPlace, "place", place, call, "ann", place, -2)
                self.assert_raises(InvalidPlace, "place", place, self.log.stretch_at, "ann", place)
                self.assert_raises(UnknownJudge, "name", "x", self.log.stretch_at, "x", place)
            for at in (-1, 3, 11, 12):
                self.assert_raises(InvalidPlace, "place", at, call, "ann", 11, at)
        self.assertEqual(self.log.stretch_at("ann", 11), [9])


if __name__ == "__main__":
    unittest.main()
