"""Points 53 and 54: worlds, and what their logs say of them."""

import unittest
from copy import deepcopy
from random import Random

from helpers import DRIFTS, contradicts, parts_of, raised
from risingbars.asks import outcomes
from risingbars.errors import InvalidBars, InvalidDrift, InvalidLog, TooLarge, UnknownItem, UnknownJudge
from risingbars.explain import Explanation, check_explanation, explains
from risingbars.logs import Log
from risingbars.pairs import sure_pairs
from risingbars.worlds import World


def plain_world():
    return World(2, {"y": 3, "x": 1, "z": 10 ** 20}, [("bob", "rises", [1, 2]), ("ann", "falls", [5, 5]),
                                                      ("cid", "stays", [-4, 3])])


def state_of(world):
    """All that a world tells."""
    log = world.log()
    judges = [judge for judge, _ in log.judges]
    return deepcopy((parts_of(log), world.bars_at(), {judge: world.bars_of(judge) for judge in judges},
                     {item: world.quality_of(item) for item in log.item_names},
                     [world.would_say(judge, item) for judge in judges for item in log.item_names]))


def random_bars(random, grades):
    return sorted(random.randint(-3, 6) for _ in range(grades))


def moved_bars(random, bars, drift):
    """Bars to which these can move."""
    if drift == "stays":
        return list(bars)
    step = 1 if drift == "rises" else -1
    moved = [bar + step * random.randint(0, 2) for bar in bars]
    # In order again, each bar is still no less, or no greater, than before.
    return sorted(moved)


class LiteralWorld:
    """A world by point 53, with a random row of what happens to it."""

    def __init__(self, seed):
        self.random = random = Random(seed)
        self.grades = random.randint(1, 3)
        names = random.sample(["b", "a", "d", "c"], random.randint(1, 4))
        self.qualities = {name: random.randint(-3, 6) for name in names}
        self.judges = [(name, random.choice(DRIFTS)) for name in random.sample(["k", "a", "j"], random.randint(1, 3))]
        self.bars = {name: random_bars(random, self.grades) for name, _ in self.judges}
        self.events = []
        self.past = {}
        self.world = World(self.grades, self.qualities,
                           [(name, drift, self.bars[name]) for name, drift in self.judges])

    def step(self):
        """Let something happen, and return what it is called."""
        word = self.random.choice(["answer"] * 5 + ["move"] * 2 + ["set anew"])
        judge, drift = self.random.choice(self.judges)
        if word == "answer":
            item = self.random.choice(sorted(self.qualities))
            grade = sum(bar <= self.qualities[item] for bar in self.bars[judge])
            self.past[len(self.events)] = self.bars[judge]
            self.events.append(("answer", judge, item, grade))
            assert self.world.would_say(judge, item) == grade
            assert self.world.answer(judge, item) == grade
            return word
        anew = word == "set anew"
        bars = random_bars(self.random, self.grades) if anew else moved_bars(self.random, self.bars[judge], drift)
        self.bars[judge] = bars
        if anew:
            self.events.append(("reset", judge))
        handed = list(bars)
        assert (self.world.set_anew(judge, handed) if anew else self.world.move(judge, handed)) is None
        assert handed == bars
        handed[0] = 99
        return word


class Worlds(unittest.TestCase):
    def test_single(self):
        world = plain_world()
        self.assertEqual(parts_of(world.log()),
                         (["x", "y", "z"], 2, [("bob", "rises"), ("ann", "falls"), ("cid", "stays")], []))
        self.assertEqual((world.bars_at(), world.bars_of("ann"), world.quality_of("z")), ({}, [5, 5], 10 ** 20))
        self.assertEqual([world.would_say("bob", item) for item in "xyz"], [1, 2, 2])
        self.assertEqual([world.would_say("ann", item) for item in "xyz"], [0, 0, 2])
        self.assertEqual([world.would_say("cid", item) for item in "xyz"], [1, 2, 2])
        self.assertEqual(world.answer("bob", "x"), 1)
        self.assertIsNone(world.move("bob", [2, 2]))
        self.assertEqual(world.answer("bob", "x"), 0)
        self.assertIsNone(world.set_anew("bob", [-1, 0]))
        self.assertEqual(world.answer("bob", "x"), 2)
        self.assertEqual(world.log().events, [("answer", "bob", "x", 1), ("answer", "bob", "x", 0), ("reset", "bob"),
                                              ("answer", "bob", "x", 2)])
        self.assertEqual(world.bars_at(), {0: [1, 2], 1: [2, 2], 3: [-1, 0]})

    def test_each_drift(self):
        for drift, up, down in (("rises", True, False), ("falls", False, True), ("stays", False, False)):
            for bars, told in (([2, 5], True), ([3, 5], up), ([2, 6], up), ([3, 6], up), ([1, 5], down), ([2, 4], down),
                               ([0, 0], down), ([1, 6], False), ([3, 4], False), ([10 ** 30, 10 ** 30], up)):
                world = World(2, {"x": 1}, [("j", drift, [2, 5])])
                self.assertEqual(raised(world.move, "j", bars), None if told else (InvalidDrift,), (drift, bars))
                self.assertEqual(world.bars_of("j"), bars if told else [2, 5])
                self.assertIsNone(raised(world.set_anew, "j", bars))
                self.assertEqual(world.bars_of("j"), bars)

    def test_rows_of_what_happens(self):
        happened = {}
        for seed in range(100):
            told = LiteralWorld(seed)
            for _ in range(14):
                word = told.step()
                happened[word] = happened.get(word, 0) + 1
                log = told.world.log()
                self.assertEqual(parts_of(log), (sorted(told.qualities), told.grades, told.judges, told.events))
                self.assertEqual(told.world.bars_at(), told.past)
                self.assertEqual({judge: told.world.bars_of(judge) for judge in told.bars}, told.bars)
                self.assertEqual({item: told.world.quality_of(item) for item in told.qualities}, told.qualities)
        self.assertGreater(min(happened.values()), 80)

    def test_would_say_changes_nothing(self):
        for seed in range(30):
            told = LiteralWorld(seed)
            for _ in range(6):
                told.step()
                before = state_of(told.world)
                for judge, _ in told.judges:
                    for item in told.qualities:
                        self.assertIn(told.world.would_say(judge, item), range(told.grades + 1))
                self.assertEqual(state_of(told.world), before)

    def test_what_its_log_says(self):
        sure = 0
        for seed in range(120):
            told = LiteralWorld(seed)
            known = []
            for _ in range(12):
                told.step()
                log = told.world.log()
                # Point 54.
                self.assertFalse(contradicts(log))
                self.assertIs(explains(log, told.qualities), True)
                self.assertIs(check_explanation(log, Explanation(told.qualities, told.world.bars_at())), True)
                pairs = sure_pairs(log)
                for worse, better in pairs:
                    self.assertLess(told.qualities[worse], told.qualities[better])
                for pair in known:
                    self.assertIn(pair, pairs)
                known = pairs
            sure += len(known)
            for judge, _ in told.judges:
                for item in told.qualities:
                    grades = [grade for grade, _ in outcomes(told.world.log(), judge, item)]
                    self.assertIn(told.world.would_say(judge, item), grades)
        self.assertGreater(sure, 40)

    def test_bounds_of_what_is_made(self):
        names = [f"n{number:02}" for number in range(20)]
        world = World(9, {name: 0 for name in names}, [(name, "stays", [0] * 9) for name in names[:8]])
        self.assertEqual((world.log().item_names, world.would_say("n00", "n19")), (names, 9))
        world = World(1, {"a1b2c3d4e5f6": -(10 ** 50)}, [("a1b2c3d4e5f6", "falls", [-(10 ** 50)])])
        self.assertEqual(world.answer("a1b2c3d4e5f6", "a1b2c3d4e5f6"), 1)


class Copies(unittest.TestCase):
    def test_what_is_handed_in(self):
        qualities = {"x": 1, "y": 2}
        bars = [1, 2]
        judges = [("j", "rises", bars)]
        world = World(2, qualities, judges)
        self.assertEqual((qualities, judges), ({"x": 1, "y": 2}, [("j", "rises", [1, 2])]))
        before = state_of(world)
        qualities["x"] = 9
        qualities["z"] = 9
        bars[0] = 0
        judges.append(("k", "rises", [1, 2]))
        self.assertEqual(state_of(world), before)
        bars = [2, 3]
        world.move("j", bars)
        world.answer("j", "y")
        bars[0] = 0
        self.assertEqual((world.bars_of("j"), world.bars_at()), ([2, 3], {0: [2, 3]}))
        bars = [0, 1]
        world.set_anew("j", bars)
        world.answer("j", "x")
        bars.clear()
        self.assertEqual((world.bars_of("j"), world.bars_at()), ([0, 1], {0: [2, 3], 2: [0, 1]}))

    def test_what_is_returned(self):
        world = plain_world()
        log = world.log()
        world.answer("bob", "x")
        world.answer("bob", "y")
        self.assertEqual(log.events, [])
        before = state_of(world)
        world.bars_of("bob")[0] = 99
        told = world.bars_at()
        told[0][0] = 99
        told[1].clear()
        told[7] = []
        world.log().events.clear()
        self.assertEqual(state_of(world), before)


class WrongInputs(unittest.TestCase):
    def test_invalid_logs_ahead_of_invalid_bars(self):
        many = {f"i{number}": 0 for number in range(21)}
        judge = ("j", "rises", [0, 0])
        wrong = [(0, {"x": 1}, [("j", "rises", [])]), (10, {"x": 1}, [("j", "rises", [0] * 10)]),
                 (-1, {"x": 1}, [judge]), (2, {}, [judge]), (2, many, [judge]), (2, {"x": 1}, []),
                 (2, {"x": 1}, [(f"j{number}", "rises", [0, 0]) for number in range(9)]),
                 (2, {"x": 1}, [judge, ("k", "rises", [0, 0]), judge]),
                 (2, {"x": 1}, [("j", "rises", [0, 0]), ("j", "falls", [0, 0])])]
        wrong += [(2, {name: 1, "x": 1}, [judge]) for name in ("", "X", "a b", "a" * 13, "a-b", "a\n")]
        wrong += [(2, {"x": 1}, [(name, "rises", [0, 0])]) for name in ("", "J", "j k", "a" * 13, "_")]
        wrong += [(2, {"x": 1}, [("j", drift, [0, 0])]) for drift in ("", "rise", "Rises", "up", "rises ")]
        for grades, qualities, judges in wrong:
            for bars in ([0, 0], [1, 0], [0]):
                told = [(name, drift, bars if own == [0, 0] else own) for name, drift, own in judges]
                before = deepcopy((qualities, told))
                self.assertEqual(raised(World, grades, qualities, told), (InvalidLog,), (grades, qualities, told))
                self.assertEqual((qualities, told), before)

    def test_invalid_bars(self):
        for grades, bars in ((2, [0]), (2, []), (2, [0, 0, 0]), (2, [1, 0]), (1, []), (3, [0, 5, 4]), (3, [5, 4, 6]),
                             (9, [0] * 8), (9, [0] * 10)):
            right = [0] * grades
            self.assertEqual(raised(World, grades, {"x": 1}, [("j", "rises", bars)]), (InvalidBars,))
            self.assertEqual(raised(World, grades, {"x": 1}, [("j", "rises", right), ("k", "stays", bars)]),
                             (InvalidBars,))
            world = World(grades, {"x": 1}, [(drift[0], drift, right) for drift in DRIFTS])
            before = state_of(world)
            for judge in ("r", "f", "s"):
                for call in (world.move, world.set_anew):
                    handed = list(bars)
                    self.assertEqual(raised(call, judge, handed), (InvalidBars,))
                    self.assertEqual(handed, bars)
            self.assertEqual(state_of(world), before)

    def test_errors_in_their_order(self):
        world = plain_world()
        world.answer("bob", "x")
        before = state_of(world)
        for call in (world.move, world.set_anew):
            for judge in ("x", "", "Bob"):
                for bars in ([5], [9, 8], [0, 0]):
                    self.assertEqual(raised(call, judge, bars), (UnknownJudge, judge))
        self.assertEqual(raised(world.move, "bob", [0, -1]), (InvalidBars,))
        self.assertEqual(raised(world.move, "bob", [0, 1]), (InvalidDrift,))
        self.assertEqual(raised(world.move, "ann", [6, 7]), (InvalidDrift,))
        for bars in ([-4, 4], [-5, 3]):
            self.assertEqual(raised(world.move, "cid", bars), (InvalidDrift,))
        self.assertIsNone(raised(world.move, "cid", [-4, 3]))
        for call in (world.would_say, world.answer):
            self.assertEqual(raised(call, "x", "w"), (UnknownJudge, "x"))
            self.assertEqual(raised(call, "bob", "w"), (UnknownItem, "w"))
            self.assertEqual(raised(call, "bob", "bob"), (UnknownItem, "bob"))
        self.assertEqual(raised(world.quality_of, "ann"), (UnknownItem, "ann"))
        self.assertEqual(raised(world.quality_of, ""), (UnknownItem, ""))
        self.assertEqual(raised(world.bars_of, "x"), (UnknownJudge, "x"))
        self.assertEqual(state_of(world), before)

    def test_120_events(self):
        world = plain_world()
        for at in range(119):
            world.answer("bob", "x") if at % 2 else world.set_anew("ann", [at, at])
        self.assertEqual(len(world.log().events), 119)
        other = plain_world()
        for _ in range(119):
            other.answer("cid", "y")
        self.assertIsNone(other.set_anew("cid", [7, 8]))
        self.assertEqual(other.log().events[-1], ("reset", "cid"))
        self.assertEqual(world.answer("bob", "y"), 2)
        for full in (world, other):
            before = state_of(full)
            self.assertEqual(len(full.log().events), 120)
            self.assertEqual(raised(full.answer, "bob", "x"), (TooLarge,))
            self.assertEqual(raised(full.set_anew, "bob", [1, 2]), (TooLarge,))
            self.assertEqual(raised(full.answer, "dan", "x"), (UnknownJudge, "dan"))
            self.assertEqual(raised(full.answer, "bob", "w"), (UnknownItem, "w"))
            self.assertEqual(raised(full.set_anew, "dan", [1, 2]), (UnknownJudge, "dan"))
            self.assertEqual(raised(full.set_anew, "bob", [2, 1]), (InvalidBars,))
            self.assertEqual(state_of(full), before)
            self.assertIn(full.would_say("bob", "x"), (0, 1, 2))
            self.assertIsNone(full.move("bob", [100, 100]))
            self.assertEqual(full.bars_of("bob"), [100, 100])

    def test_the_log_is_a_log(self):
        self.assertIsInstance(plain_world().log(), Log)


if __name__ == "__main__":
    unittest.main()
