"""Points 27, 30, 31 and 34: sortings into classes, and the most items that are apart."""

import unittest
from itertools import combinations, product
from math import comb

import helpers
from helpers import contradictory_logs, explained_logs, log_of_chains, log_of_pairs, parts_of, raised, random_rankings
from risingbars.errors import TooLarge, Unexplained, UnknownItem
from risingbars.links import is_way
from risingbars.logs import Log
from risingbars.sorting import check_widest, class_count, is_sorting, longest_way, sort_items, sorting_at
from risingbars.sorting import sorting_count, widest

RING = Log(["x", "y"], 1, [("j", "rises")], [("answer", "j", "x", 0), ("answer", "j", "x", 1)])
FORK = log_of_pairs("edcba", [("a", "b"), ("b", "c"), ("a", "d")])


def small_logs(seed, many):
    return explained_logs(seed, many) + [FORK, log_of_pairs("abcd", [("a", "b"), ("c", "d"), ("a", "d")])]


def sortings_of(log, classes):
    """All sortings, by point 30."""
    names = log.item_names
    ends = [(log.events[first][2], log.events[second][2]) for first, second in helpers.links(log)]
    rows = [dict(zip(names, row)) for row in product(range(1, classes + 1), repeat=len(names))]
    return [told for told in rows if all(told[worse] < told[better] for worse, better in ends)]


class Classes(unittest.TestCase):
    def test_no_links(self):
        log = Log(["x", "y"], 3, [("j", "falls")], [("answer", "j", "x", 2)])
        self.assertEqual((class_count(log), longest_way(log)), (1, []))
        self.assertEqual(sort_items(log, 1), {"x": (1, 1), "y": (1, 1)})
        self.assertEqual(sort_items(log, 30), {"x": (1, 30), "y": (1, 30)})

    def test_long_ways(self):
        log = log_of_chains(20)
        self.assertEqual(class_count(log), 20)
        self.assertEqual(longest_way(log), [(3 * at + 1, 3 * at + 2) for at in range(19)])
        self.assertIsNone(sort_items(log, 19))
        self.assertEqual(sort_items(log, 20), {f"c0n{at}": (at + 1, at + 1) for at in range(20)})
        self.assertEqual(sort_items(log, 23), {f"c0n{at}": (at + 1, at + 4) for at in range(20)})
        self.assertEqual(sorting_count(log, 30), comb(30, 20))
        self.assertEqual(sorting_count(log, 19), 0)

    def test_a_fork(self):
        self.assertEqual(class_count(FORK), 3)
        self.assertEqual(longest_way(FORK), [(1, 2), (4, 5)])
        for classes in (1, 2):
            self.assertIsNone(sort_items(FORK, classes))
        for classes in range(3, 31):
            self.assertEqual(sort_items(FORK, classes), {"e": (1, classes), "d": (2, classes), "c": (3, classes),
                                                         "b": (2, classes - 1), "a": (1, classes - 2)})

    def test_longest_ways(self):
        for log in small_logs(61, 80) + random_rankings(71, 40, "fedcba"):
            way = longest_way(log)
            many = class_count(log) - 1
            self.assertEqual(len(way), many)
            if way:
                self.assertTrue(is_way(log, way, log.item_at(way[0][0]), log.item_at(way[-1][1])))
            names = log.item_names
            self.assertFalse(any(helpers.ways_of_length(log, one, other, many + 1) for one in names for other in names))

    def test_all_sortings(self):
        for log in small_logs(62, 40):
            before = parts_of(log)
            for classes in range(1, 6):
                rows = sortings_of(log, classes)
                self.assertEqual(class_count(log) <= classes, bool(rows))
                told = sort_items(log, classes)
                if not rows:
                    self.assertIsNone(told)
                else:
                    self.assertEqual(told, {item: (min(row[item] for row in rows), max(row[item] for row in rows))
                                            for item in log.item_names})
                    self.assertEqual(list(told), log.item_names)
                self.assertEqual(sorting_count(log, classes), len(rows))
                for item in log.item_names:
                    for number in list(range(-2, classes + 3)) + [10 ** 30, -10 ** 30]:
                        one = sorting_at(log, classes, item, number)
                        self.assertEqual(one is None, not any(row[item] == number for row in rows))
                        if one is not None:
                            self.assertIn(one, rows)
                            self.assertEqual(one[item], number)
            self.assertEqual(parts_of(log), before)

    def test_is_sorting_of_small_logs(self):
        for log in small_logs(63, 30) + contradictory_logs(64, 10):
            rows = sortings_of(log, 3)
            names = log.item_names
            for row in product(range(5), repeat=len(names)):
                told = dict(zip(names, row))
                self.assertIs(is_sorting(log, 3, told), told in rows)

    def test_is_sorting_single(self):
        told = {"e": 3, "d": 2, "c": 3, "b": 2, "a": 1}
        self.assertIs(is_sorting(FORK, 3, told), True)
        wrong = [{}, {**told, "f": 1}, {**told, "a": 0}, {**told, "e": 4}, {**told, "e": 0}, {**told, "e": -1},
                 {**told, "d": 1}, {**told, "b": 3}, {**told, "a": 2}, {**told, "c": 2},
                 {name: told[name] for name in "edcb"}, {name: told[name] for name in "dcba"},
                 {"f": 3, **{name: told[name] for name in "dcba"}}, {**told, "e": 10 ** 30}]
        for other in wrong:
            before = dict(other)
            self.assertIs(is_sorting(FORK, 3, other), False, other)
            self.assertEqual(other, before)
        self.assertIs(is_sorting(FORK, 2, told), False)
        self.assertIs(is_sorting(FORK, 30, {**told, "e": 30, "c": 29}), True)
        self.assertIs(is_sorting(RING, 30, {"x": 1, "y": 1}), False)

    def test_1000_closed_lots(self):
        for lengths in ((9, 3, 4, 4), (1, 1, 1, 4, 4, 4)):
            for classes in (3, 9, 10, 30):
                told = 1
                for length in lengths:
                    told *= comb(classes, length)
                self.assertEqual(sorting_count(log_of_chains(*lengths), classes), told)

    def test_more_closed_lots(self):
        for log in (log_of_chains(1, 1, 1, 4, 4, 4, bottom=True), log_of_chains(1, 1, 9, 4, 4, bottom=True),
                    log_of_chains(*[1] * 10)):
            for classes in (1, 30):
                self.assertEqual(raised(sorting_count, log, classes), (TooLarge,))
        self.assertEqual(sorting_count(log_of_chains(*[1] * 9), 30), 30 ** 9)


def literal_widest(log):
    """The most items of which none is surely worse than another one."""
    below = helpers.below(log)
    names = log.item_names
    return max(many for many in range(len(names) + 1) for lot in combinations(names, many)
               if not any(one in below[other] for one in lot for other in lot))


class Widest(unittest.TestCase):
    def test_small_logs(self):
        for log in small_logs(65, 80):
            before = parts_of(log)
            below = helpers.below(log)
            items, rows = widest(log)
            self.assertEqual(len(items), literal_widest(log))
            self.assertEqual(items, [item for item in log.item_names if item in items])
            self.assertFalse(any(one in below[other] for one in items for other in items))
            self.assertEqual(len(rows), len(items))
            self.assertEqual(sorted(item for row in rows for item in row), sorted(log.item_names))
            for row in rows:
                self.assertTrue(row and all(one in below[other] for one, other in zip(row, row[1:])))
            self.assertIs(check_widest(log, items, rows), True)
            self.assertEqual(parts_of(log), before)

    def test_items_that_are_reached_through_others(self):
        items, rows = widest(log_of_pairs("abc", [("a", "c"), ("b", "c")]))
        self.assertEqual((items, len(rows)), (["a", "b"], 2))

    def test_rows_that_must_be_changed(self):
        # Whoever puts a ahead of c first must change it, since b can stand ahead of c alone.
        log = log_of_pairs("abcd", [("a", "c"), ("a", "d"), ("b", "c")])
        items, rows = widest(log)
        self.assertEqual(len(items), 2)
        self.assertEqual(sorted(rows), [["a", "d"], ["b", "c"]])
        for lengths in ((20,), (1,) * 20, (5, 5, 5, 5), (9, 3, 4, 4)):
            log = log_of_chains(*lengths)
            items, rows = widest(log)
            self.assertEqual((len(items), len(rows)), (len(lengths), len(lengths)))
            self.assertIs(check_widest(log, items, rows), True)

    def test_many_items(self):
        for log in random_rankings(72, 200):
            items, rows = widest(log)
            self.assertEqual(len(items), literal_widest(log))
            self.assertEqual(items, [item for item in log.item_names if item in items])
            self.assertIs(check_widest(log, items, rows), True)

    def test_changed_papers(self):
        log = FORK
        items = ["e", "d", "c"]
        rows = [["a", "b", "c"], ["d"], ["e"]]
        self.assertIs(check_widest(log, items, rows), True)
        self.assertIs(check_widest(log, ["c", "e", "d"], [["e"], ["a", "d"], ["b", "c"]]), True)
        self.assertIs(check_widest(log, ["b", "e", "d"], [["a", "d"], ["e"], ["b", "c"]]), True)
        for other in (["e", "d"], ["e", "d", "c", "b"], ["e", "d", "c", "c"], ["e", "d", "d"], ["e", "d", "a"],
                      ["e", "d", "f"], ["e", "c", "b"], [], ["e", "e", "e"]):
            before = list(other)
            self.assertIs(check_widest(log, other, rows), False, other)
            self.assertEqual(other, before)
        wrong = [[["a", "b", "c"], ["d"]], [["a", "b", "c"], ["d"], ["e"], []], [["a", "b", "c"], ["d", "e"], []],
                 [["a", "b", "c"], ["d"], ["e"], ["e"]], [["a", "b", "c"], ["d"], ["d"]],
                 [["a", "b", "c"], ["a", "d"], ["e"]], [["a", "c", "b"], ["d"], ["e"]], [["b", "c"], ["d"], ["e"]],
                 [["a", "b", "c"], ["e", "d"], []], [["a", "b"], ["c"], ["d"], ["e"]], [["a", "b", "d"], ["c"], ["e"]],
                 [["a", "b", "c"], ["d"], ["f"]], [["a", "b", "c"], ["d"], ["e", "f"]], [], [[], [], []],
                 [["c", "b", "a"], ["d"], ["e"]], [["a", "b", "c"], ["d"], ["e", "e"]]]
        for other in wrong:
            before = [list(row) for row in other]
            self.assertIs(check_widest(log, items, other), False, other)
            self.assertEqual(other, before)
        # Fewer items that are apart, and as many rows, are no papers: all must stand in the rows.
        self.assertIs(check_widest(log, ["e", "a"], [["a", "b", "c"], ["d"]]), False)

    def test_surely_worse_goes_over_several_links(self):
        self.assertIs(check_widest(log_of_pairs("abc", [("a", "b"), ("b", "c")]), ["b"], [["a", "b", "c"]]), True)
        self.assertIs(check_widest(FORK, ["e", "d", "b"], [["a", "c"], ["d"], ["e"]]), False)
        self.assertIs(check_widest(FORK, ["e", "d", "c"], [["a", "c"], ["b"], ["e"]]), False)
        self.assertIs(check_widest(FORK, ["e", "d", "a"], [["a", "c"], ["b"], ["e", "d"]]), False)
        log = log_of_pairs("abcd", [("a", "b"), ("b", "c"), ("d", "b")])
        self.assertIs(check_widest(log, ["a", "d"], [["a", "c"], ["d", "b"]]), True)


class Errors(unittest.TestCase):
    def test_unexplained(self):
        for log in contradictory_logs(70, 20) + [RING]:
            item = log.item_names[0]
            for call in (class_count, longest_way, widest):
                self.assertEqual(raised(call, log), (Unexplained,))
            for classes in (1, 30):
                self.assertEqual(raised(sort_items, log, classes), (Unexplained,))
                self.assertEqual(raised(sorting_at, log, classes, item, 1), (Unexplained,))
                self.assertEqual(raised(sorting_count, log, classes), (Unexplained,))
                self.assertIs(is_sorting(log, classes, {}), False)
            self.assertEqual(raised(check_widest, log, [], []), (Unexplained,))
            self.assertEqual(raised(check_widest, log, log.item_names, [[name] for name in log.item_names]),
                             (Unexplained,))

    def test_unknown_item_ahead_of_unexplained(self):
        for log in (RING, FORK):
            for item in ("w", "", "j"):
                for number in (0, 1, 99):
                    self.assertEqual(raised(sorting_at, log, 3, item, number), (UnknownItem, item))

    def test_unexplained_ahead_of_too_large(self):
        log = log_of_pairs([f"i{number}" for number in range(20)], [("i4", "i5"), ("i5", "i4")])
        self.assertEqual(raised(sorting_count, log, 30), (Unexplained,))
        self.assertEqual(raised(sorting_count, log.beginning(3), 30), (TooLarge,))

    def test_new_each_time(self):
        for call in (lambda: longest_way(FORK), lambda: sort_items(FORK, 4), lambda: sorting_at(FORK, 4, "a", 2)):
            before = call().copy()
            call().clear()
            self.assertEqual(call(), before)
        items, rows = widest(FORK)
        items.clear()
        rows[0].clear()
        self.assertIs(check_widest(FORK, *widest(FORK)), True)


if __name__ == "__main__":
    unittest.main()
