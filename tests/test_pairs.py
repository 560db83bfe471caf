"""Points 24 to 27 and 34: orders, sure and open pairs, places, counts."""

import unittest
from math import comb, factorial

import helpers
from helpers import all_qualities, contradictory_logs, explained_logs, explaining_orders, log_of_chains, log_of_pairs
from helpers import orders_of, parts_of, plain_log, raised, random_logs, random_rankings
from risingbars import pairs
from risingbars.errors import TooLarge, Unexplained, UnknownItem
from risingbars.logs import Log
from risingbars.pairs import best_items, explains_order, may_be, open_pairs, order_at, order_count, order_of
from risingbars.pairs import order_saying, places_of, single_count, sure_pairs, worst_items

WORDS = ["worse", "alike", "better"]
EXAMPLE = Log(["x", "y", "z"], 1, [("j", "rises")], [("answer", "j", "x", 0), ("answer", "j", "y", 1)])
RING = Log(["x", "y"], 1, [("j", "rises")], [("answer", "j", "x", 0), ("answer", "j", "x", 1)])


def word_of(order, one, other):
    """What the order says of the first item beside the second one."""
    number = {name: at for at, step in enumerate(order) for name in step}
    if number[one] == number[other]:
        return "alike"
    return "worse" if number[one] < number[other] else "better"


def singles_of(log):
    return [order for order in explaining_orders(log) if all(len(step) == 1 for step in order)]


def pairs_of(names):
    return [(one, other) for one in names for other in names if one != other]


class Example(unittest.TestCase):
    def test_of_the_interface(self):
        log = EXAMPLE
        self.assertEqual((sure_pairs(log), may_be(log, "x", "z"), places_of(log, "z"), single_count(log),
                          order_count(log)), ([('x', 'y')], ['worse', 'alike', 'better'], (0, 2), 3, 5))


class Orders(unittest.TestCase):
    def test_order_of(self):
        log = Log(["c", "a", "d", "b"], 1, [("j", "stays")], [])
        self.assertEqual(order_of(log, {"a": 1, "b": 1, "c": 1, "d": 1}), [["c", "a", "d", "b"]])
        self.assertEqual(order_of(log, {"a": -1, "b": 10 ** 30, "c": -1, "d": -10 ** 30}), [["d"], ["c", "a"], ["b"]])
        self.assertEqual(order_of(log, {"b": 0, "d": 5, "a": 5, "c": 9}), [["b"], ["a", "d"], ["c"]])

    def test_order_of_takes_every_log(self):
        told = {"y": 0, "x": 3}
        self.assertEqual(order_of(RING, told), [["y"], ["x"]])
        self.assertEqual(told, {"y": 0, "x": 3})
        for log in random_logs(41, 30):
            for told in all_qualities(log):
                values = sorted(set(told.values()))
                self.assertEqual(order_of(log, told), [
                    [item for item in log.item_names if told[item] == value] for value in values])

    def test_explains_order_single(self):
        wrong = [[], [[]], [["x", "y", "z"]], [["x"], ["y"]], [["x"], ["y"], ["z"], ["z"]], [["x"], ["y", "y"], ["z"]],
                 [["x"], ["y"], ["w"]], [["x"], ["y", "z", "w"]], [["x"], [], ["y", "z"]], [["x"], ["y", "z"], []],
                 [[], ["x"], ["y", "z"]], [["x"], ["z", "y"]], [["z", "x"], ["y"]], [["y"], ["x"], ["z"]], [["x", "y"]],
                 [["x", "y", "z"], ["x", "y", "z"]]]
        for order in wrong:
            before = [list(step) for step in order]
            self.assertIs(explains_order(EXAMPLE, order), False, order)
            self.assertEqual(order, before)
        for order in ([["x"], ["y", "z"]], [["x", "z"], ["y"]], [["x"], ["z"], ["y"]], [["z"], ["x"], ["y"]]):
            self.assertIs(explains_order(EXAMPLE, order), True, order)

    def test_items_that_do_not_stand_in_the_order_of_their_names(self):
        log = Log(["z", "a", "m"], 1, [("j", "stays")], [])
        for order, answer in (([["z", "a", "m"]], True), ([["m"], ["z", "a"]], True), ([["a", "z"], ["m"]], False)):
            self.assertIs(explains_order(log, order), answer)

    def test_explains_order_of_rings(self):
        for log in contradictory_logs(42, 20) + [RING]:
            for order in orders_of(log.item_names) + [[]]:
                self.assertIs(explains_order(log, order), False)

    def test_explains_order_of_small_logs(self):
        for log in explained_logs(43, 40):
            explaining = explaining_orders(log)
            for order in orders_of(log.item_names):
                number = {name: at for at, step in enumerate(order) for name in step}
                self.assertIs(explains_order(log, order), order in explaining)
                self.assertIs(explains_order(log, order), helpers.explained_by(log, number))


class Pairs(unittest.TestCase):
    def test_in_the_order_of_the_items(self):
        log = log_of_pairs("dbca", [("a", "b"), ("d", "c"), ("b", "c")])
        self.assertEqual(sure_pairs(log), [("d", "c"), ("b", "c"), ("a", "b"), ("a", "c")])
        self.assertEqual(open_pairs(log), [("d", "b"), ("d", "a")])
        log = Log(["b", "a"], 1, [("j", "stays")], [])
        self.assertEqual((sure_pairs(log), open_pairs(log)), ([], [("b", "a")]))
        self.assertEqual(open_pairs(Log(["b"], 1, [("j", "stays")], [])), [])

    def test_all_orders(self):
        for log in explained_logs(44, 60):
            before = parts_of(log)
            orders = explaining_orders(log)
            names = log.item_names
            sure = [pair for pair in pairs_of(names) if all(word_of(order, *pair) == "worse" for order in orders)]
            self.assertEqual(sure_pairs(log), sure)
            self.assertEqual(open_pairs(log), [pair for pair in pairs_of(names) if pair not in sure
                                               and pair[::-1] not in sure and names.index(pair[0]) < names.index(pair[1])])
            for one, other in pairs_of(names):
                can = [word for word in WORDS if any(word_of(order, one, other) == word for order in orders)]
                self.assertEqual(may_be(log, one, other), can)
                self.assertIn(can, (["worse"], ["better"], WORDS))
                for word in WORDS:
                    told = order_saying(log, one, other, word)
                    self.assertEqual(told is None, word not in can)
                    if told is not None:
                        self.assertIn(told, orders)
                        self.assertEqual(word_of(told, one, other), word)
            self.assertEqual(parts_of(log), before)

    def test_alike_joins_what_is_below_and_above_of_both(self):
        log = log_of_pairs("abcdef", [("a", "b"), ("b", "c"), ("d", "e"), ("e", "f")])
        for one in "abc":
            for other in "def":
                for word in WORDS:
                    told = order_saying(log, one, other, word)
                    self.assertTrue(explains_order(log, told))
                    self.assertEqual(word_of(told, one, other), word)


class Places(unittest.TestCase):
    def test_all_single_orders(self):
        for log in explained_logs(45, 60) + [log_of_pairs("abcde", [("a", "b"), ("a", "c"), ("d", "c")])]:
            singles = singles_of(log)
            for item in log.item_names:
                places = [order.index([item]) for order in singles]
                self.assertEqual(places_of(log, item), (min(places), max(places)))
                for place in list(range(-3, len(log.item_names) + 3)) + [10 ** 30, -10 ** 30]:
                    told = order_at(log, item, place)
                    self.assertEqual(told is None, place not in places)
                    if told is not None:
                        self.assertIn(told, singles)
                        self.assertEqual(told[place], [item])

    def test_a_better_item_ahead_of_deeper_ones(self):
        log = log_of_pairs("abcpq", [("a", "b"), ("b", "c"), ("p", "q")])
        self.assertEqual(places_of(log, "p"), (0, 3))
        for log in [log] + random_rankings(49, 60):
            for item in log.item_names:
                least, greatest = places_of(log, item)
                for place in range(len(log.item_names)):
                    told = order_at(log, item, place)
                    self.assertEqual(told is None, not least <= place <= greatest)
                    if told is not None:
                        self.assertTrue(explains_order(log, told))
                        self.assertEqual((told[place], len(told)), ([item], len(log.item_names)))

    def test_ends(self):
        for log in explained_logs(46, 60):
            orders = explaining_orders(log)
            self.assertEqual(best_items(log), [
                item for item in log.item_names if any(item in order[-1] for order in orders)])
            self.assertEqual(worst_items(log), [
                item for item in log.item_names if any(item in order[0] for order in orders)])
        log = log_of_pairs("zyxw", [("z", "x"), ("w", "y")])
        self.assertEqual((best_items(log), worst_items(log)), (["y", "x"], ["z", "w"]))


class Counts(unittest.TestCase):
    def test_small_logs(self):
        for log in explained_logs(47, 60) + [log_of_pairs("abcde", [("a", "b"), ("a", "c"), ("d", "c")]),
                                             log_of_pairs("abcde", []), log_of_pairs("abcde", [("b", "a"), ("a", "e")])]:
            self.assertEqual(order_count(log), len(explaining_orders(log)))
            self.assertEqual(single_count(log), len(singles_of(log)))

    def test_one_way_of_20_items(self):
        log = log_of_chains(20)
        self.assertEqual((order_count(log), single_count(log)), (1, 1))

    def test_1000_closed_lots(self):
        for lengths in ((9, 3, 4, 4), (1, 1, 1, 4, 4, 4)):
            log = log_of_chains(*lengths)
            many = sum(lengths)
            singles = factorial(many)
            for length in lengths:
                singles //= factorial(length)
            self.assertEqual(single_count(log), singles)
            self.assertEqual(order_count(log), sum(orders_with(lengths, steps) for steps in range(many + 1)))
        self.assertEqual(len(log_of_chains(9, 3, 4, 4).item_names), 20)

    def test_more_closed_lots(self):
        for log in (log_of_chains(1, 1, 1, 4, 4, 4, bottom=True), log_of_chains(1, 1, 9, 4, 4, bottom=True),
                    log_of_pairs([f"i{number}" for number in range(20)], []), log_of_chains(*[1] * 10)):
            self.assertEqual(raised(order_count, log), (TooLarge,))
            self.assertEqual(raised(single_count, log), (TooLarge,))
        self.assertEqual(len(log_of_chains(1, 1, 9, 4, 4, bottom=True).item_names), 20)
        self.assertEqual(single_count(log_of_chains(*[1] * 9)), factorial(9))

    def test_unexplained_ahead_of_too_large(self):
        log = log_of_pairs([f"i{number}" for number in range(20)], [("i4", "i4")])
        for call in (order_count, single_count):
            self.assertEqual(raised(call, log), (Unexplained,))


def orders_with(lengths, steps):
    """The number of orders with so many steps of the items of these chains, by inclusion and exclusion."""
    told = 0
    for classes in range(steps + 1):
        many = 1
        for length in lengths:
            many *= comb(classes, length)
        told += (-1) ** (steps - classes) * comb(steps, classes) * many
    return told


class Errors(unittest.TestCase):
    def test_unexplained(self):
        for log in contradictory_logs(48, 20) + [RING]:
            for call in (sure_pairs, open_pairs, best_items, worst_items, order_count, single_count):
                self.assertEqual(raised(call, log), (Unexplained,))
            for item in log.item_names:
                self.assertEqual(raised(places_of, log, item), (Unexplained,))
                self.assertEqual(raised(order_at, log, item, 0), (Unexplained,))
                for other in log.item_names:
                    if other != item:
                        self.assertEqual(raised(may_be, log, item, other), (Unexplained,))
                        for word in WORDS:
                            self.assertEqual(raised(order_saying, log, item, other, word), (Unexplained,))

    def test_unknown_items_first(self):
        for log in (EXAMPLE, RING):
            for one, other, name in (("w", "x", "w"), ("x", "j", "j"), ("w", "v", "w"), ("", "x", ""), ("v", "w", "v")):
                self.assertEqual(raised(may_be, log, one, other), (UnknownItem, name))
                self.assertEqual(raised(order_saying, log, one, other, "alike"), (UnknownItem, name))
            self.assertEqual(raised(places_of, log, "w"), (UnknownItem, "w"))
            self.assertEqual(raised(order_at, log, "j", 99), (UnknownItem, "j"))


class Copies(unittest.TestCase):
    def test_what_is_returned_is_new(self):
        log = plain_log().only([0, 2])
        told = {"x": 0, "y": 1, "z": 1}
        calls = [lambda: order_of(log, told), lambda: sure_pairs(log), lambda: open_pairs(log),
                 lambda: may_be(log, "x", "z"), lambda: order_saying(log, "x", "z", "alike"),
                 lambda: order_at(log, "z", 1), lambda: best_items(log), lambda: worst_items(log)]
        for call in calls:
            before = [part if isinstance(part, (tuple, str)) else list(part) for part in call()]
            for part in call():
                if isinstance(part, list):
                    part.clear()
            call().clear()
            self.assertEqual(call(), before)
            self.assertTrue(before)

    def test_all_of_the_interface_is_there(self):
        for name in ("order_of", "explains_order", "sure_pairs", "open_pairs", "may_be", "order_saying", "places_of",
                     "order_at", "best_items", "worst_items", "order_count", "single_count"):
            self.assertEqual(getattr(pairs, name).__module__, "risingbars.pairs")


if __name__ == "__main__":
    unittest.main()
