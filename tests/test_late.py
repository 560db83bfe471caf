"""Points 32 and 33: late answers, their choices, and what is sure with them."""

import unittest
from copy import deepcopy
from itertools import product
from random import Random

import helpers
from helpers import contradictory_logs, log_of_pairs, parts_of, raised, random_logs
from risingbars.errors import InvalidGrade, InvalidPlace, TooLarge, UnknownItem, UnknownJudge
from risingbars.late import check_late, choices_of, late_paper, log_with, places_left, possible_choices, sure_with
from risingbars.logs import Log

EXAMPLE = Log(["x", "y", "z"], 1, [("j", "rises")], [("answer", "j", "x", 0), ("answer", "j", "y", 1)])


def literal_log(log, lates, choice):
    """The log of the choice: the late answers behind each other at each place."""
    events = []
    for place in range(len(log.events) + 1):
        for (judge, item, grade, _, _), at in zip(lates, choice):
            if at == place:
                events.append(("answer", judge, item, grade))
        events += log.events[place:place + 1]
    return Log(log.item_names, log.grades, log.judges, events)


def literal_choices(lates):
    return sorted(product(*[range(first, last + 1) for _, _, _, first, last in lates]))


def with_lates(seed, many, most_events=6):
    """Logs with late answers."""
    random = Random(seed)
    found = []
    for log in random_logs(seed, many, most_events):
        lates = []
        for _ in range(random.randint(1, 3)):
            first = random.randint(0, len(log.events))
            last = min(first + random.randint(0, 3), len(log.events))
            lates.append((random.choice(log.judges)[0], random.choice(log.item_names), random.randint(0, log.grades),
                          first, last))
        found.append((log, lates))
    return found


class Example(unittest.TestCase):
    def test_of_the_interface(self):
        self.assertEqual((places_left(EXAMPLE, [("j", "y", 0, 0, 2)], 0), sure_with(EXAMPLE, [("j", "z", 0, 0, 1)])),
                         ([2], [('x', 'y'), ('z', 'y')]))


class Choices(unittest.TestCase):
    def test_ascending(self):
        lates = [("j", "x", 0, 1, 2), ("j", "z", 1, 0, 0), ("j", "y", 0, 0, 2)]
        self.assertEqual(choices_of(EXAMPLE, lates), [(1, 0, 0), (1, 0, 1), (1, 0, 2), (2, 0, 0), (2, 0, 1), (2, 0, 2)])
        self.assertEqual(choices_of(EXAMPLE, lates[1:2]), [(0,)])

    def test_log_of_a_choice(self):
        lates = [("j", "z", 1, 0, 2), ("j", "z", 0, 0, 2), ("j", "y", 1, 0, 2)]
        first, second = EXAMPLE.events
        late = [("answer", "j", "z", 1), ("answer", "j", "z", 0), ("answer", "j", "y", 1)]
        for choice, events in (((0, 0, 0), late + [first, second]), ((2, 2, 2), [first, second] + late),
                               ((1, 0, 1), [late[1], first, late[0], late[2], second]),
                               ((2, 1, 0), [late[2], first, late[1], second, late[0]]),
                               ((1, 1, 0), [late[2], first, late[0], late[1], second])):
            told = log_with(EXAMPLE, lates, choice)
            self.assertEqual(told.events, events)
            self.assertEqual((told.item_names, told.grades, told.judges), (["x", "y", "z"], 1, [("j", "rises")]))

    def test_small_logs(self):
        for log, lates in with_lates(71, 100):
            before = parts_of(log), list(lates)
            choices = literal_choices(lates)
            self.assertEqual(choices_of(log, lates), choices)
            logs = {choice: literal_log(log, lates, choice) for choice in choices}
            for choice in choices:
                self.assertTrue(log_with(log, lates, choice).same_as(logs[choice]))
            can = [choice for choice in choices if not helpers.contradicts(logs[choice])]
            self.assertEqual(possible_choices(log, lates), can)
            for number in range(len(lates)):
                self.assertEqual(places_left(log, lates, number), sorted({choice[number] for choice in can}))
            self.assertEqual((parts_of(log), lates), before)

    def test_of_a_contradictory_log_none_is_possible(self):
        for log in contradictory_logs(72, 20):
            lates = [(log.judges[0][0], log.item_names[0], 0, 0, len(log.events))]
            self.assertEqual(possible_choices(log, lates), [])
            self.assertEqual(places_left(log, lates, 0), [])
            self.assertIsNone(sure_with(log, lates))

    def test_possible_places_of_one_stretch_follow_one_another(self):
        for log, lates in with_lates(73, 150, most_events=8):
            judge, item, grade, _, _ = lates[0]
            if dict(log.judges)[judge] == "stays":
                continue
            left = places_left(log, [(judge, item, grade, 0, len(log.events))], 0)
            lots = {}
            for place in left:
                lots.setdefault(log.events[:place].count(("reset", judge)), []).append(place)
            for lot in lots.values():
                self.assertEqual(lot, list(range(lot[0], lot[-1] + 1)))


class Sure(unittest.TestCase):
    def test_small_logs(self):
        none = 0
        for log, lates in with_lates(74, 150):
            before = parts_of(log), list(lates)
            logs = [literal_log(log, lates, choice) for choice in literal_choices(lates)]
            possible = [told for told in logs if not helpers.contradicts(told)]
            sure = [(worse, better) for worse in log.item_names for better in log.item_names
                    if all(worse in helpers.below(told)[better] for told in possible)]
            none += not possible
            self.assertEqual(sure_with(log, lates), sure if possible else None)
            for worse, better in product(log.item_names, repeat=2):
                if worse == better:
                    continue
                paper = late_paper(log, lates, worse, better)
                self.assertEqual(paper is None, bool(possible) and (worse, better) not in sure)
                if paper is not None:
                    self.assertEqual(len(paper), len(logs))
                    for row, told in zip(paper, logs):
                        start = told.item_at(row[0][0])
                        self.assertTrue(helpers.is_way(told, row, worse, better)
                                        or helpers.is_way(told, row, start, start))
                    self.assertIs(check_late(log, lates, worse, better, paper), True)
            self.assertEqual((parts_of(log), lates), before)
        self.assertGreater(none, 10)
        self.assertLess(none, 140)

    def test_in_the_order_of_the_items(self):
        log = log_of_pairs("cba", [("a", "b"), ("b", "c"), ("a", "c")])
        self.assertEqual(sure_with(log, [("j", "a", 0, 0, 9)]), [("b", "c"), ("a", "c"), ("a", "b")])

    def test_none_is_possible(self):
        lates = [("j", "y", 1, 0, 0), ("j", "x", 0, 0, 0), ("j", "x", 1, 1, 2)]
        self.assertEqual(possible_choices(EXAMPLE, lates), [])
        self.assertIsNone(sure_with(EXAMPLE, lates))
        paper = late_paper(EXAMPLE, lates, "z", "y")
        self.assertEqual(len(paper), 2)
        self.assertIs(check_late(EXAMPLE, lates, "z", "y", paper), True)


class Papers(unittest.TestCase):
    def setUp(self):
        # z, with 0, stands ahead of the 1 of y at the places 0 and 1; with 2 it stands behind it.
        self.lates = [("j", "z", 0, 0, 1), ("j", "x", 1, 0, 2)]
        self.paper = [[(0, 3)], [(0, 3)], [(0, 2)], [(2, 3)], [(1, 3)], [(1, 2)]]

    def check(self, paper, worse="z", better="y", lates=None):
        lates = self.lates if lates is None else lates
        before = deepcopy(paper)
        answer = check_late(EXAMPLE, lates, worse, better, paper)
        self.assertEqual(paper, before)
        return answer

    def test_ways_and_rings(self):
        self.assertEqual(choices_of(EXAMPLE, self.lates), [(0, 0), (0, 1), (0, 2), (1, 0), (1, 1), (1, 2)])
        # Behind the 0 of x, the late 1 of x makes a ring: (0, 1), (0, 2), (1, 1) and (1, 2).
        self.assertEqual(possible_choices(EXAMPLE, self.lates), [(0, 0), (1, 0)])
        self.assertIs(self.check(self.paper), True)
        self.assertIs(self.check(self.paper[:1] + [[(1, 2)]] + self.paper[2:5] + [[(0, 3)]]), True)
        self.assertEqual(sure_with(EXAMPLE, self.lates), [("x", "y"), ("z", "y")])
        self.assertIs(self.check(late_paper(EXAMPLE, self.lates, "z", "y")), True)

    def test_left_out_or_too_many(self):
        for number in range(6):
            self.assertIs(self.check(self.paper[:number] + self.paper[number + 1:]), False)
            self.assertIs(self.check(self.paper[:number] + [[]] + self.paper[number + 1:]), False)
        self.assertIs(self.check(self.paper + [[(0, 3)]]), False)
        self.assertIs(self.check([]), False)

    def test_links_of_the_log_of_another_choice(self):
        for number, row in ((0, [(0, 2)]), (2, [(0, 3)]), (3, [(0, 3)]), (5, [(1, 3)])):
            self.assertIs(self.check(self.paper[:number] + [row] + self.paper[number + 1:]), False, number)
        self.assertIs(self.check(self.paper[::-1]), False)
        self.assertIs(self.check(self.paper, lates=self.lates[::-1]), False)

    def test_changed_ways(self):
        for row in ([(3, 0)], [(0, 0)], [(2, 3)], [(0, 3), (0, 3)], [(0, 1)], [(-4, 3)], [(0, 4)], [(0, 99)],
                    [(99, 3)], [(10 ** 30, -1)], [(0, 1), (1, 3)]):
            self.assertIs(self.check([row] + self.paper[1:]), False, row)
        self.assertIs(self.check([[(0, 1), (2, 3)]] + self.paper[1:]), True)

    def test_way_of_another_pair(self):
        self.assertIs(self.check(self.paper, "x", "y"), False)
        self.assertIs(self.check([[(2, 3)], [(1, 3)], [(1, 2)], [(1, 3)], [(0, 3)], [(0, 2)]], "x", "y"), True)
        self.assertIs(self.check(self.paper, "y", "z"), False)
        self.assertIsNone(late_paper(EXAMPLE, self.lates, "y", "z"))
        self.assertIsNone(late_paper(EXAMPLE, self.lates, "x", "z"))

    def test_rings_of_any_item_do(self):
        # The 1 of x is in the ring, and the ring is none of z or y.
        ring = [(1, 2)]
        told = log_with(EXAMPLE, self.lates, (0, 1))
        self.assertEqual([told.item_at(place) for place in ring[0]], ["x", "x"])
        self.assertIs(self.check([self.paper[0], ring] + self.paper[2:]), True)
        longer = [(1, 2), (1, 2)]
        self.assertIs(self.check([self.paper[0], longer] + self.paper[2:]), True)
        self.assertIs(self.check([ring] + self.paper[1:]), False)

    def test_new_each_time(self):
        calls = [lambda: choices_of(EXAMPLE, self.lates), lambda: possible_choices(EXAMPLE, self.lates),
                 lambda: places_left(EXAMPLE, self.lates, 0), lambda: sure_with(EXAMPLE, self.lates),
                 lambda: late_paper(EXAMPLE, self.lates, "z", "y")]
        for call in calls:
            before = deepcopy(call())
            for part in call():
                if isinstance(part, list):
                    part.clear()
            call().clear()
            self.assertEqual(call(), before)
            self.assertTrue(before)


def calls_with(lates):
    """Each function of the file with these late answers; the items of the last two are unknown."""
    choice = tuple(late[3] for late in lates)
    return [lambda log: choices_of(log, lates), lambda log: log_with(log, lates, choice),
            lambda log: possible_choices(log, lates), lambda log: places_left(log, lates, 0),
            lambda log: sure_with(log, lates), lambda log: late_paper(log, lates, "v", "w"),
            lambda log: check_late(log, lates, "v", "w", [])]


class Errors(unittest.TestCase):
    def assert_all_raise(self, log, lates, told):
        for number, call in enumerate(calls_with(lates)):
            with self.subTest(number=number, lates=lates):
                self.assertEqual(raised(call, log), told)

    def test_of_one_late_answer(self):
        for late, told in ((("k", "w", 2, 3, 4), (UnknownJudge, "k")), (("x", "w", 2, 3, 4), (UnknownJudge, "x")),
                           (("j", "w", 2, 3, 4), (UnknownItem, "w")), (("j", "j", 0, 0, 0), (UnknownItem, "j")),
                           (("j", "x", 2, 3, 4), (InvalidGrade, 2)), (("j", "x", -1, 0, 0), (InvalidGrade, -1)),
                           (("j", "x", 1, 3, 4), (InvalidPlace, 3)), (("j", "x", 1, -1, 4), (InvalidPlace, -1)),
                           (("j", "x", 1, 4, 3), (InvalidPlace, 4)), (("j", "x", 1, 0, 3), (InvalidPlace, 3)),
                           (("j", "x", 1, 2, 1), (InvalidPlace, 1)), (("j", "x", 1, 0, -1), (InvalidPlace, -1))):
            self.assert_all_raise(EXAMPLE, [late], told)

    def test_the_first_of_which_something_is_wrong(self):
        good = ("j", "x", 1, 0, 2)
        self.assert_all_raise(EXAMPLE, [good, ("j", "x", 1, 0, 9), ("k", "x", 1, 0, 0)], (InvalidPlace, 9))
        self.assert_all_raise(EXAMPLE, [good, good, ("j", "x", 5, 0, 9), ("k", "x", 1, 0, 0)], (InvalidGrade, 5))
        self.assert_all_raise(EXAMPLE, [good, ("k", "w", 5, 9, 9), ("j", "w", 1, 0, 0)], (UnknownJudge, "k"))

    def test_120_events(self):
        log = Log(["x"], 1, [("j", "stays")], [("reset", "j")] * 117)
        lates = [("j", "x", 1, place, place) for place in (0, 60, 117)]
        self.assertEqual(len(log_with(log, lates, (0, 60, 117)).events), 120)
        self.assertEqual(possible_choices(log, lates), [(0, 60, 117)])
        self.assert_all_raise(log, lates + [("j", "x", 1, 0, 0)], (TooLarge,))
        full = log.with_event(("reset", "j")).with_event(("reset", "j")).with_event(("reset", "j"))
        self.assertEqual(len(full.events), 120)
        self.assert_all_raise(full, [("j", "x", 1, 0, 0)], (TooLarge,))
        self.assert_all_raise(full, [("j", "x", 1, 0, 0), ("j", "x", 1, 0, 121)], (InvalidPlace, 121))

    def test_500_choices(self):
        log = Log(["x", "y"], 1, [("j", "rises")], [("answer", "j", "x", 1), ("answer", "j", "y", 0)] * 15)
        for spans in ((5, 10, 10, 1), (20, 25), (2, 5, 5, 10)):
            lates = [("j", "x", 1, 1, many) for many in spans]
            self.assertEqual(len(choices_of(log, lates)), 500)
            self.assertEqual(choices_of(log, lates), literal_choices(lates))
            self.assertLessEqual(len(possible_choices(log, lates)), 500)
        for spans in ((3, 24, 7), (21, 24), (30, 17), (8, 8, 8)):
            lates = [("j", "x", 1, 1, many) for many in spans]
            self.assert_all_raise(log, lates, (TooLarge,))
        log = Log(["x"], 1, [("j", "rises")], [("reset", "j")] * 100)
        # 501 is 3 times 167, more places than a log can have; so 504 is the next number.
        self.assertEqual(len(choices_of(log, [("j", "x", 1, 0, 99), ("j", "x", 1, 0, 4)])), 500)
        self.assert_all_raise(log, [("j", "x", 1, 0, 83), ("j", "x", 1, 0, 5)], (TooLarge,))

    def test_unknown_items_behind_them(self):
        lates = [("j", "x", 1, 0, 2)]
        for worse, better, name in (("v", "w", "v"), ("x", "w", "w"), ("w", "x", "w"), ("j", "x", "j")):
            self.assertEqual(raised(late_paper, EXAMPLE, lates, worse, better), (UnknownItem, name))
            self.assertEqual(raised(check_late, EXAMPLE, lates, worse, better, []), (UnknownItem, name))


if __name__ == "__main__":
    unittest.main()
