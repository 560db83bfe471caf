"""Points 20, 21 and 22: logs that say the same, outer and needless answers, thinned logs."""

import unittest
from random import Random

import helpers
from helpers import all_qualities, contradictory_logs, explained_by, explained_logs, parts_of, plain_log, raised
from helpers import random_logs
from risingbars.errors import UnlikeLogs
from risingbars.links import covers_of, least_links
from risingbars.logs import Log
from risingbars.same import needless_answers, outer_answers, parting_qualities, say_same, says_all, thinned


def rising(*rows, items=("x", "y", "z")):
    """A log of one judge who rises, with an answer for each `(item, grade)` and a reset for each None."""
    events = [("reset", "j") if row is None else ("answer", "j", row[0], row[1]) for row in rows]
    return Log(list(items), 9, [("j", "rises")], events)


def turned(log, random):
    """The log with its items in another order."""
    items = log.item_names
    random.shuffle(items)
    return Log(items, log.grades, log.judges, log.events)


def pairs_of_logs(seed, many):
    """Pairs of logs with the same items in whatever order, with and without rings."""
    random = Random(seed)
    logs = random_logs(seed, many)
    found = []
    for one in logs:
        for other in logs:
            if sorted(one.item_names) == sorted(other.item_names) and random.random() < 0.15:
                found.append((one, turned(other, random)))
    return found


def literally_says_all(one, other):
    return all(explained_by(other, told) for told in all_qualities(one) if explained_by(one, told))


class Saying(unittest.TestCase):
    def test_single(self):
        chain = rising(("x", 0), ("y", 1), ("z", 2))
        steps = Log(["z", "x", "y"], 1, [("a", "falls")], [
            ("answer", "a", "y", 1), ("answer", "a", "x", 0), ("reset", "a"), ("answer", "a", "z", 1),
            ("answer", "a", "y", 0)])
        one_step = rising(("x", 0), ("z", 2))
        self.assertIs(say_same(chain, steps), True)
        self.assertIs(say_same(chain, one_step), False)
        self.assertIs(say_same(one_step, chain), False)
        self.assertEqual((says_all(chain, one_step), says_all(one_step, chain)), (True, False))
        self.assertIsNone(parting_qualities(chain, one_step))
        self.assertEqual((says_all(one_step, rising()), says_all(rising(), one_step)), (True, False))

    def test_a_log_and_itself(self):
        for log in random_logs(31, 60) + [plain_log()]:
            self.assertIs(says_all(log, log), True)
            self.assertIs(say_same(log, log), True)
            self.assertIsNone(parting_qualities(log, log))

    def test_rings(self):
        ring = rising(("x", 0), ("x", 1))
        other_ring = rising(("z", 0), ("y", 1), None, ("y", 0), ("z", 1))
        plain = rising(("x", 0), ("y", 1))
        self.assertEqual((says_all(ring, other_ring), says_all(other_ring, ring)), (True, True))
        self.assertIs(say_same(ring, other_ring), True)
        self.assertEqual((says_all(ring, plain), says_all(plain, ring)), (True, False))
        self.assertEqual((say_same(ring, plain), say_same(plain, ring)), (False, False))
        self.assertIsNone(parting_qualities(ring, plain))
        self.assertIsNone(parting_qualities(ring, other_ring))
        told = parting_qualities(plain, ring)
        self.assertEqual(sorted(told), ["x", "y", "z"])
        self.assertLess(told["x"], told["y"])

    def test_other_items(self):
        log = rising(("x", 0), ("x", 1))
        for items in (["x", "y"], ["x", "y", "z", "a"], ["x", "y", "a"]):
            for call in (says_all, say_same, parting_qualities):
                other = Log(items, 9, [("j", "rises")], [])
                self.assertEqual(raised(call, log, other), (UnlikeLogs,))
                self.assertEqual(raised(call, other, log), (UnlikeLogs,))

    def test_as_the_document_tells_it(self):
        counts = {True: 0, False: 0}
        for one, other in pairs_of_logs(32, 90):
            before = parts_of(one), parts_of(other)
            there = literally_says_all(one, other)
            back = literally_says_all(other, one)
            self.assertIs(says_all(one, other), there)
            self.assertIs(says_all(other, one), back)
            self.assertIs(say_same(one, other), there and back)
            self.assertIs(say_same(other, one), there and back)
            counts[there] += 1
            told = parting_qualities(one, other)
            self.assertEqual(told is None, there)
            if told is not None:
                self.assertEqual(sorted(told), sorted(one.item_names))
                self.assertTrue(explained_by(one, told))
                self.assertFalse(explained_by(other, told))
            self.assertEqual((parts_of(one), parts_of(other)), before)
        self.assertGreater(min(counts.values()), 100)

    def test_a_link_for_each_cover_says_the_same(self):
        for log in explained_logs(33, 60):
            for item in log.item_names:
                self.assertEqual(helpers.below(log)[item], [
                    name for name in log.item_names if name in reached(covers_of(log), item)])
            self.assertEqual(len(least_links(log)), len(covers_of(log)))


def reached(covers, item):
    """The items from which ways of the covers lead to the item."""
    found = set()
    while True:
        more = {worse for worse, better in covers if better == item or better in found}
        if more == found:
            return found
        found = more


class OuterAnswers(unittest.TestCase):
    def test_single(self):
        log = rising(("x", 0), ("x", 0), ("y", 0), ("x", 0), ("x", 1), None, ("x", 0), ("x", 0), ("x", 0))
        self.assertEqual(outer_answers(log), [0, 2, 3, 4, 6, 8])
        self.assertEqual(outer_answers(rising()), [])
        self.assertEqual(outer_answers(rising(("x", 3))), [0])

    def test_judges_have_their_own(self):
        log = Log(["x"], 1, [("j", "stays"), ("k", "falls")], [("answer", judge, "x", 1) for judge in "jkjkjk"])
        self.assertEqual(outer_answers(log), [0, 1, 4, 5])

    def test_as_the_document_tells_it(self):
        for log in random_logs(34, 120, most_events=20) + [plain_log()]:
            given = helpers.answers(log)
            told = []
            for place, answer in given.items():
                like = [other for other in given if given[other] == answer and helpers.of_one_stretch(log, place, other)]
                if place in (min(like), max(like)):
                    told.append(place)
            self.assertEqual(outer_answers(log), told)

    def test_they_say_the_same(self):
        for log in random_logs(35, 120, most_events=20):
            outer = log.only(outer_answers(log))
            if helpers.contradicts(log):
                self.assertTrue(helpers.contradicts(outer))
            else:
                self.assertEqual(helpers.below(outer), helpers.below(log))


class NeedlessAnswers(unittest.TestCase):
    def test_each_is_tried_alone(self):
        log = rising(("x", 0), ("x", 0), ("y", 1), ("y", 1))
        self.assertEqual(needless_answers(log), [0, 1, 2, 3])
        self.assertEqual(needless_answers(rising(("x", 0), ("y", 1), ("y", 1))), [1, 2])
        self.assertEqual(needless_answers(rising(("x", 0), ("y", 1), ("z", 0))), [2])
        self.assertEqual(needless_answers(rising()), [])

    def test_rings(self):
        self.assertEqual(needless_answers(rising(("x", 0), ("x", 1))), [])
        self.assertEqual(needless_answers(rising(("x", 0), ("y", 1), ("x", 1))), [1])
        self.assertEqual(needless_answers(rising(("x", 0), ("x", 1), ("x", 2))), [0, 1, 2])

    def test_as_the_document_tells_it(self):
        for log in random_logs(36, 150, most_events=12) + [plain_log()]:
            before = parts_of(log)
            self.assertEqual(needless_answers(log), [
                place for place in log.answers() if literally_same(log, log.without_event(place))])
            self.assertEqual(parts_of(log), before)


def literally_same(one, other):
    if helpers.contradicts(one) or helpers.contradicts(other):
        return helpers.contradicts(one) and helpers.contradicts(other)
    return helpers.below(one) == helpers.below(other)


def literally_thinned(log):
    left = log
    place = 0
    while place < len(left.events):
        if left.is_answer(place) and literally_same(left.without_event(place), log):
            left = left.without_event(place)
        else:
            place += 1
    return left


class ThinnedLogs(unittest.TestCase):
    def test_from_the_first_answer_on(self):
        log = rising(("x", 0), ("x", 0), None, ("y", 0), None, ("x", 0), ("y", 1), ("y", 1))
        self.assertEqual(thinned(log).events, [("reset", "j"), ("reset", "j"), ("answer", "j", "x", 0),
                                               ("answer", "j", "y", 1)])
        log = rising(("x", 0), ("x", 0), ("y", 1))
        self.assertEqual(thinned(log).events, log.events[1:])

    def test_rings(self):
        log = rising(("x", 0), ("x", 1), ("y", 1), ("y", 2))
        self.assertEqual(thinned(log).events, log.events[2:])
        self.assertEqual(thinned(rising(("x", 0), ("x", 1), ("x", 2))).events, rising(("x", 1), ("x", 2)).events)

    def test_as_the_document_tells_it(self):
        for log in random_logs(37, 150, most_events=12) + contradictory_logs(38, 30, most_events=14) + [plain_log()]:
            before = parts_of(log)
            told = thinned(log)
            self.assertTrue(told.same_as(literally_thinned(log)))
            self.assertEqual(needless_answers(told), [])
            self.assertTrue(say_same(told, log))
            self.assertEqual([event for event in told.events if event[0] == "reset"],
                             [event for event in log.events if event[0] == "reset"])
            self.assertEqual(parts_of(log), before)

    def test_what_is_returned_is_new(self):
        log = rising(("x", 0), ("x", 0), ("y", 1))
        for call in (outer_answers, needless_answers):
            call(log).clear()
        told = parting_qualities(log, rising(("y", 0), ("x", 1)))
        told.clear()
        self.assertEqual((outer_answers(log), needless_answers(log)), ([0, 1, 2], [0, 1]))
        self.assertEqual(len(parting_qualities(log, rising(("y", 0), ("x", 1)))), 3)
        self.assertEqual(len(thinned(log).events), 2)


if __name__ == "__main__":
    unittest.main()
