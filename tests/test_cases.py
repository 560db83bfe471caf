"""Points 35 to 39: cases."""

import unittest
from copy import deepcopy
from itertools import product
from random import Random

from helpers import LiteralCase, all_qualities, answers, contradictory_logs, explained_logs, parts_of, plain_log
from helpers import raised, raised_bars, random_changes, random_logs, way
from risingbars.cases import Case
from risingbars.errors import InvalidDrift, InvalidPlace, UnknownItem, UnknownJudge
from risingbars.links import links_of
from risingbars.logs import Log

EXAMPLE = Log(["x", "y"], 2, [("ann", "rises")], [
    ("answer", "ann", "y", 2), ("answer", "ann", "x", 1), ("answer", "ann", "x", 1), ("answer", "ann", "y", 0)])


def small_cases(seed, many, most_events=7):
    """Logs with arguments for a case."""
    random = Random(seed)
    return [(log, random_changes(random, log)) for log in random_logs(seed, many, most_events)]


class Example(unittest.TestCase):
    def test_of_the_interface(self):
        log = EXAMPLE
        self.assertEqual([Case(log).links(), Case(log, moves=[2]).ring(), Case(log, moves=[3]).explanation()],
                         [[], [(1, 0), (3, 2)],
                          ({'x': 0, 'y': 1}, {0: [0, 1], 1: [0, 1], 2: [0, 1], 3: [2, 2]})])


class Parts(unittest.TestCase):
    def test_without_changes(self):
        for log in random_logs(81, 80) + [plain_log()]:
            for case in (Case(log), Case(log, drifts=None, struck=None, resets=None, moves=None),
                         Case(log, drifts={}, struck=[], resets=[])):
                self.assertEqual(case.links(), links_of(log))
                self.assertEqual(case.answers(), log.answers())
                for one in log.answers():
                    self.assertEqual(case.stretch_of(one), log.stretch_of(one))
                    for other in log.answers():
                        self.assertIs(case.in_order(one, other), log.in_order(one, other))
                        self.assertIs(case.stand_together(one, other), one == other)

    def test_drifts(self):
        log = Log(["x", "y"], 1, [("j", "rises"), ("k", "rises")], [
            ("answer", "j", "x", 0), ("answer", "k", "x", 0), ("answer", "j", "y", 1), ("answer", "k", "y", 1),
            ("answer", "j", "x", 0)])
        self.assertEqual(Case(log).links(), [(0, 2), (1, 3)])
        self.assertEqual(Case(log, drifts={"j": "falls"}).links(), [(1, 3), (4, 2)])
        self.assertEqual(Case(log, drifts={"j": "stays", "k": "falls"}).links(), [(0, 2), (4, 2)])
        self.assertEqual(log.judges, [("j", "rises"), ("k", "rises")])

    def test_struck_answers(self):
        case = Case(EXAMPLE, struck=[2, 0, 2], drifts={"ann": "falls"})
        self.assertEqual(case.answers(), [1, 3])
        self.assertEqual(case.stretch_of(1), [1, 3])
        self.assertEqual(case.links(), [(3, 1)])
        for place in (0, 2, -1, 4):
            self.assertEqual(raised(case.stretch_of, place), (InvalidPlace, place))
        self.assertEqual(Case(EXAMPLE, struck=[3, 1, 0, 2]).answers(), [])

    def test_new_resets(self):
        case = Case(EXAMPLE, resets=[2])
        self.assertEqual([case.stretch_of(place) for place in range(4)], [[0, 1], [0, 1], [2, 3], [2, 3]])
        self.assertEqual(Case(EXAMPLE, resets=[3, 1, 3]).stretch_of(2), [1, 2])
        self.assertEqual(Case(EXAMPLE, resets=[0]).stretch_of(0), [0, 1, 2, 3])

    def test_a_reset_ahead_of_a_struck_answer(self):
        case = Case(EXAMPLE, struck=[2], resets=[2])
        self.assertEqual([case.stretch_of(place) for place in (0, 1, 3)], [[0, 1], [0, 1], [3]])
        self.assertIs(case.in_order(1, 3), False)

    def test_a_reset_is_one_of_the_judge_of_the_answer_alone(self):
        log = Log(["x"], 1, [("j", "stays"), ("k", "stays")], [("answer", judge, "x", 0) for judge in "jkjk"])
        case = Case(log, resets=[2])
        self.assertEqual([case.stretch_of(place) for place in range(4)], [[0], [1, 3], [2], [1, 3]])

    def test_places_for_moves(self):
        case = Case(EXAMPLE)
        self.assertEqual([case.stand_together(0, place) for place in range(4)], [True, False, False, False])
        case = Case(EXAMPLE, moves=[])
        self.assertEqual([case.stand_together(3, place) for place in range(4)], [True] * 4)
        case = Case(EXAMPLE, moves=[2, 0, 2])
        self.assertEqual([[one, other] for one in range(4) for other in range(4) if case.stand_together(one, other)],
                         [[0, 0], [0, 1], [1, 0], [1, 1], [2, 2], [2, 3], [3, 2], [3, 3]])

    def test_moves_at_struck_answers(self):
        case = Case(EXAMPLE, struck=[2], moves=[2])
        self.assertIs(case.stand_together(0, 1), True)
        self.assertIs(case.stand_together(1, 3), False)

    def test_moves_of_another_judge_and_resets(self):
        log = Log(["x"], 1, [("j", "rises"), ("k", "rises")], [
            ("answer", "j", "x", 0), ("answer", "k", "x", 0), ("answer", "j", "x", 0), ("reset", "j"),
            ("answer", "j", "x", 0)])
        case = Case(log, moves=[1])
        self.assertIs(case.stand_together(0, 2), True)
        self.assertIs(case.stand_together(2, 4), False)
        self.assertIs(case.in_order(2, 4), False)
        self.assertIs(case.stand_together(0, 1), False)

    def test_all_pairs_of_places(self):
        random = Random(82)
        for log, changes in small_cases(83, 150, most_events=10):
            before = parts_of(log), deepcopy(changes)
            case = Case(log, **changes)
            told = LiteralCase(log, **changes)
            given = list(told.given)
            self.assertEqual(case.answers(), given)
            self.assertEqual(case.links(), told.links)
            for one, other in product(given, given):
                self.assertIs(case.in_order(one, other), told.in_order(one, other))
                self.assertIs(case.stand_together(one, other), told.together(one, other))
            for one in given:
                self.assertEqual(case.stretch_of(one), [other for other in given if told.of_one_stretch(one, other)])
            self.assertEqual((parts_of(log), changes), before)
            # In another order, and repeated, the same places say the same.
            more = {name: value if name == "drifts" else random.sample(value, len(value)) + value[:1]
                    for name, value in changes.items()}
            self.assertEqual(Case(log, **more).links(), told.links)
            self.assertEqual(Case(log, **more).answers(), given)

    def test_later_changes_do_nothing(self):
        drifts = {"ann": "stays"}
        struck, resets, moves = [0], [3], [2]
        case = Case(EXAMPLE, drifts=drifts, struck=struck, resets=resets, moves=moves)
        before = (case.answers(), case.links(), case.stretch_of(1), case.stand_together(1, 2), case.explanation())
        drifts["ann"] = "falls"
        drifts["bob"] = "up"
        for places in (struck, resets, moves):
            places[:] = [1, 99]
        case.answers().clear()
        case.links().clear()
        case.stretch_of(1).clear()
        told = case.explanation()
        told[0].clear()
        told[1][1].clear()
        told[1].pop(2)
        self.assertEqual((case.answers(), case.links(), case.stretch_of(1), case.stand_together(1, 2),
                          case.explanation()), before)


class Errors(unittest.TestCase):
    def test_judges_drifts_places(self):
        log = plain_log()
        wrong = [({"drifts": {"dan": "rises", "ann": "up", "cat": "falls"}, "struck": [3]}, (UnknownJudge, "cat")),
                 ({"drifts": {"x": "rises"}}, (UnknownJudge, "x")),
                 ({"drifts": {"zed": "rises", "ann": "up"}, "moves": [-1]}, (UnknownJudge, "zed")),
                 ({"drifts": {"ann": "rises", "cid": "up"}, "struck": [3]}, (InvalidDrift,)),
                 ({"drifts": {"ann": ""}, "resets": [3]}, (InvalidDrift,)),
                 ({"struck": [0, 7, 3], "resets": [-1], "moves": [99]}, (InvalidPlace, 7)),
                 ({"struck": [0], "resets": [1, -1, 3], "moves": [99]}, (InvalidPlace, -1)),
                 ({"struck": [0], "resets": [1], "moves": [2, 11, 3]}, (InvalidPlace, 11)),
                 ({"moves": [3]}, (InvalidPlace, 3)), ({"resets": [3]}, (InvalidPlace, 3)),
                 ({"struck": [3]}, (InvalidPlace, 3)), ({"struck": [-11]}, (InvalidPlace, -11)),
                 ({"struck": [10 ** 30]}, (InvalidPlace, 10 ** 30))]
        for changes, told in wrong:
            before = deepcopy(changes)
            self.assertEqual(raised(Case, log, **changes), told)
            self.assertEqual(changes, before)
        self.assertIsNone(raised(Case, log, struck=[0], resets=[0], moves=[0], drifts={"cid": "falls"}))

    def test_what_is_none_of_its_answers(self):
        log = plain_log()
        case = Case(log, struck=[2])
        for call in (case.in_order, case.stand_together):
            for one, other, place in ((2, 3, 2), (0, 2, 2), (3, 2, 3), (-1, 99, -1), (0, 99, 99), (11, 0, 11),
                                      (0, -11, -11), (7, 7, 7)):
                self.assertEqual(raised(call, one, other), (InvalidPlace, place))
        for place in (2, 3, 7, -1, 11):
            self.assertEqual(raised(case.stretch_of, place), (InvalidPlace, place))

    def test_unknown_items(self):
        case = Case(EXAMPLE)
        for worse, better, name in (("w", "v", "w"), ("v", "x", "v"), ("x", "w", "w"), ("ann", "x", "ann")):
            self.assertEqual(raised(case.way_between, worse, better), (UnknownItem, name))


class Explained(unittest.TestCase):
    def test_rings_and_ways(self):
        for log, changes in small_cases(84, 120):
            case = Case(log, **changes)
            told = LiteralCase(log, **changes)
            self.assertEqual(case.ring(), told.ring())
            for worse, better in product(log.item_names, repeat=2):
                self.assertEqual(case.way_between(worse, better), way(log, worse, better, told.links))

    def test_first_ring(self):
        log = Log(["z", "y", "x"], 1, [("j", "rises")], [
            ("answer", "j", "x", 1), ("answer", "j", "y", 1), ("answer", "j", "x", 0), ("answer", "j", "y", 0)])
        self.assertEqual(Case(log, moves=[]).ring(), [(2, 0)])
        self.assertEqual(Case(log, moves=[1]).ring(), [(3, 1)])
        self.assertEqual(Case(log, moves=[], struck=[1]).way_between("y", "x"), [(3, 0)])
        self.assertEqual(Case(log, moves=[], resets=[3]).links(), [(2, 0), (2, 1)])
        self.assertIsNone(Case(log, moves=[2]).ring())
        self.assertIsNone(Case(log).ring())

    def test_exactly_one_of_the_two(self):
        counts = {True: 0, False: 0}
        for log, changes in small_cases(85, 200):
            case = Case(log, **changes)
            explained = LiteralCase(log, **changes).is_explained()
            counts[explained] += 1
            self.assertEqual(case.ring() is None, explained)
            self.assertEqual(case.explanation() is not None, explained)
        self.assertGreater(min(counts.values()), 30)

    def test_depths_and_bars(self):
        for log, changes in small_cases(86, 150):
            case = Case(log, **changes)
            literal = LiteralCase(log, **changes)
            told = case.explanation()
            if told is None:
                continue
            depths, bars = told
            self.assertEqual(depths, {item: literal.depth(item) for item in log.item_names})
            self.assertEqual(list(bars), list(literal.given))
            for place in literal.given:
                for grade in range(1, log.grades + 1):
                    lower = [depths[item] for other, (item, less) in literal.given.items()
                             if less < grade and literal.is_bound(other, place)]
                    self.assertEqual(bars[place][grade - 1], max(lower) + 1 if lower else 0)
            self.assertIs(case.explains(depths, bars), True)
            self.assertTrue(literal.is_explained_by(depths, bars))

    def test_explains_all_that_does(self):
        for log, changes in small_cases(87, 60, most_events=5):
            case = Case(log, **changes)
            literal = LiteralCase(log, **changes)
            for qualities in all_qualities(log):
                bars = raised_bars(log.grades, literal.given, literal.bound(), qualities)
                if bars is not None:
                    self.assertIs(case.explains(qualities, bars), True)

    def test_changed_by_one(self):
        for log, changes in small_cases(88, 60, most_events=5):
            case = Case(log, **changes)
            literal = LiteralCase(log, **changes)
            if case.explanation() is None:
                continue
            qualities, bars = case.explanation()
            for by in (-1, 1):
                for item in qualities:
                    other = {**qualities, item: qualities[item] + by}
                    self.assertIs(case.explains(other, bars), literal.is_explained_by(other, bars))
                for place in bars:
                    for at in range(log.grades):
                        changed = deepcopy(bars)
                        changed[place][at] += by
                        before = deepcopy(changed)
                        self.assertIs(case.explains(qualities, changed), literal.is_explained_by(qualities, changed))
                        self.assertEqual(changed, before)

    def test_bars_that_stand_together(self):
        log = Log(["x"], 1, [("j", "rises")], [("answer", "j", "x", 0)] * 3)
        for moves, rows, answer in ((None, (1, 2, 3), True), (None, (1, 2, 1), False), ([], (2, 2, 2), True),
                                    ([], (1, 2, 2), False), ([1], (1, 2, 2), True), ([1], (1, 2, 3), False),
                                    ([1], (2, 1, 1), False), ([0], (1, 2, 2), False), ([1, 2], (1, 2, 3), True)):
            told = {place: [bar] for place, bar in enumerate(rows)}
            self.assertIs(Case(log, moves=moves).explains({"x": 0}, told), answer)
        told = {0: [1], 2: [2]}
        self.assertIs(Case(log, moves=[1], struck=[1]).explains({"x": 0}, told), True)
        self.assertIs(Case(log, moves=[], struck=[1]).explains({"x": 0}, told), False)
        self.assertIs(Case(log, moves=[], resets=[1]).explains({"x": 0}, {0: [2], 1: [1], 2: [1]}), True)
        self.assertIs(Case(log, drifts={"j": "falls"}).explains({"x": 0}, {0: [3], 1: [2], 2: [1]}), True)

    def test_keys_and_numbers_of_bars(self):
        case = Case(EXAMPLE, moves=[3])
        qualities, bars = case.explanation()
        self.assertIs(case.explains(qualities, bars), True)
        for told in ({}, {"x": 0}, {"y": 1}, {**qualities, "z": 0}, {"x": 0, "z": 1}):
            self.assertIs(case.explains(told, bars), False)
        for place in bars:
            left = {at: row for at, row in bars.items() if at != place}
            self.assertIs(case.explains(qualities, left), False)
            for row in ([], bars[place][:1], bars[place] + [9]):
                self.assertIs(case.explains(qualities, {**left, place: row}), False)
        for place in (-1, 4, 99):
            self.assertIs(case.explains(qualities, {**bars, place: [0, 1]}), False)
        struck = Case(EXAMPLE, moves=[3], struck=[1])
        self.assertIs(struck.explains(qualities, bars), False)
        self.assertIs(struck.explains(qualities, {at: bars[at] for at in (0, 2, 3)}), True)
        self.assertIs(Case(EXAMPLE, struck=[0, 1, 2, 3]).explains({"x": 3, "y": -3}, {}), True)
        self.assertIs(Case(EXAMPLE, struck=[0, 1, 2, 3]).explains({"x": 3}, {}), False)

    def test_items_that_do_not_stand_in_the_order_of_their_names(self):
        log = Log(["z", "a"], 1, [("j", "rises")], [("answer", "j", "z", 0), ("answer", "j", "a", 1)])
        self.assertIs(Case(log).explains(*Case(log).explanation()), True)
        self.assertIs(Case(log).explains({"a": 1, "z": 0}, {1: [1], 0: [1]}), True)

    def test_bars_of_any_size(self):
        log = Log(["x", "y"], 2, [("j", "stays")], [("answer", "j", "x", 0), ("answer", "j", "y", 2)])
        told = {"x": -10 ** 40, "y": 10 ** 40}
        self.assertIs(Case(log).explains(told, {0: [-10 ** 40 + 1, 10 ** 40], 1: [-10 ** 40 + 1, 10 ** 40]}), True)
        self.assertIs(Case(log).explains(told, {0: [-10 ** 40, 10 ** 40], 1: [-10 ** 40, 10 ** 40]}), False)
        self.assertIs(Case(log).explains(told, {0: [5, 4], 1: [5, 4]}), False)


class More(unittest.TestCase):
    """Point 39."""

    def test_of_an_explained_case(self):
        random = Random(89)
        tried = 0
        for log, changes in small_cases(90, 250, most_events=10):
            if Case(log, **changes).ring() is not None or not answers(log):
                continue
            given = list(answers(log))
            tried += 1
            for _ in range(4):
                more = dict(changes)
                for name in ("struck", "resets", "moves"):
                    if more.get(name) is not None or name != "moves":
                        more[name] = (more.get(name) or []) + random.choices(given, k=random.randint(0, 3))
                if random.random() < 0.3:
                    more["moves"] = None
                self.assertIsNone(Case(log, **more).ring())
        self.assertGreater(tried, 60)

    def test_who_may_stay_may_rise_and_fall(self):
        for log in explained_logs(91, 60):
            for judge, _ in log.judges:
                if Case(log, drifts={judge: "stays"}).ring() is None:
                    for drift in ("rises", "falls"):
                        self.assertIsNone(Case(log, drifts={judge: drift}).ring())

    def test_contradictory_logs_can_have_explained_cases(self):
        for log in contradictory_logs(92, 30):
            self.assertIsNotNone(Case(log).ring())
            self.assertIsNone(Case(log, struck=log.answers()).ring())
            self.assertIsNone(Case(log, resets=log.answers()).ring())


if __name__ == "__main__":
    unittest.main()
