"""Points 13, 14, 15, 21 and 23: links, ways, covers."""

import unittest

import helpers
from helpers import parts_of, plain_log, random_logs
from risingbars import links
from risingbars.errors import UnknownItem, Unexplained
from risingbars.links import covers_of, has_way, is_link, is_way, least_links, links_between, links_of
from risingbars.links import way_between, worse_than
from risingbars.logs import Log


def one_judge(drift, *rows, items=("x", "y", "z"), grades=9):
    """A log of one judge, with an answer for each `(item, grade)` and a reset for each None."""
    events = [("reset", "j") if row is None else ("answer", "j", row[0], row[1]) for row in rows]
    return Log(list(items), grades, [("j", drift)], events)


def pairs_around(log):
    near = range(-len(log.events) - 2, len(log.events) + 3)
    return [(first, second) for first in near for second in near]


class Links(unittest.TestCase):
    def test_drifts(self):
        rows = [("x", 1), ("y", 0), ("z", 2), ("x", 1)]
        self.assertEqual(links_of(one_judge("rises", *rows)), [(0, 2), (1, 2), (1, 3)])
        self.assertEqual(links_of(one_judge("falls", *rows)), [(1, 0), (3, 2)])
        self.assertEqual(links_of(one_judge("stays", *rows)), [(0, 2), (1, 0), (1, 2), (1, 3), (3, 2)])

    def test_resets_and_other_judges_part(self):
        self.assertEqual(links_of(one_judge("rises", ("x", 0), None, ("y", 1))), [])
        log = Log(["x", "y"], 1, [("j", "rises"), ("k", "rises")],
                  [("answer", "j", "x", 0), ("answer", "k", "y", 1), ("reset", "k"), ("answer", "j", "y", 1)])
        self.assertEqual(links_of(log), [(0, 3)])

    def test_equal_grades_make_none(self):
        self.assertEqual(links_of(one_judge("stays", ("x", 1), ("y", 1))), [])
        self.assertEqual(links_of(Log(["x"], 1, [("j", "rises")], [])), [])

    def test_links_of_several_judges_are_ascending(self):
        log = Log(["x", "y"], 1, [("j", "falls"), ("k", "rises")],
                  [("answer", "k", "x", 0), ("answer", "j", "y", 1), ("answer", "k", "y", 1), ("answer", "j", "x", 0)])
        self.assertEqual(links_of(log), [(0, 2), (3, 1)])

    def test_link_from_an_item_to_itself(self):
        log = one_judge("rises", ("x", 0), ("x", 1), ("y", 1))
        self.assertEqual(links_between(log, "x", "x"), [(0, 1)])
        self.assertEqual(links_between(log, "x", "y"), [(0, 2)])
        self.assertEqual(links_between(log, "y", "x"), [])
        self.assertEqual(links_between(log, "z", "z"), [])

    def test_as_the_document_tells_it(self):
        for log in random_logs(6, 150) + [plain_log()]:
            before = parts_of(log)
            told = helpers.links(log)
            self.assertEqual(links_of(log), told)
            for pair in pairs_around(log):
                self.assertIs(is_link(log, *pair), pair in told)
            for worse in log.item_names:
                for better in log.item_names:
                    self.assertEqual(links_between(log, worse, better), [
                        link for link in told if (log.item_at(link[0]), log.item_at(link[1])) == (worse, better)])
            self.assertEqual(parts_of(log), before)

    def test_120_answers(self):
        items = [f"i{number}" for number in range(20)]
        log = one_judge("rises", *[(items[place % 20], place // 13) for place in range(120)], items=items)
        self.assertEqual(links_of(log), helpers.links(log))


class Ways(unittest.TestCase):
    def test_shorter_ways_come_first(self):
        log = one_judge("rises", ("x", 0), ("y", 1), None, ("y", 0), ("z", 1), None, ("x", 0), ("z", 1))
        self.assertEqual(way_between(log, "x", "z"), [(6, 7)])
        self.assertEqual(way_between(log.beginning(6), "x", "z"), [(0, 1), (3, 4)])

    def test_of_one_length_the_first_one(self):
        log = Log(["x", "u", "v", "z"], 1, [("j", "falls")], [
            ("answer", "j", "z", 1), ("answer", "j", "u", 0), ("reset", "j"),
            ("answer", "j", "z", 1), ("answer", "j", "v", 0), ("reset", "j"),
            ("answer", "j", "v", 1), ("answer", "j", "u", 1), ("answer", "j", "x", 0)])
        self.assertEqual(way_between(log, "x", "z"), [(8, 6), (4, 3)])
        self.assertEqual(links_between(log, "x", "z"), [])

    def test_no_way(self):
        log = one_judge("rises", ("x", 0), ("y", 1))
        self.assertIsNone(way_between(log, "y", "x"))
        self.assertIsNone(way_between(log, "x", "x"))
        self.assertIsNone(way_between(log, "z", "z"))
        self.assertIs(has_way(log, "y", "x"), False)
        self.assertIs(has_way(log, "x", "x"), False)
        self.assertIs(has_way(log, "x", "y"), True)

    def test_rings(self):
        log = one_judge("rises", ("x", 0), ("y", 1), ("x", 2))
        self.assertEqual(way_between(log, "x", "x"), [(0, 2)])
        self.assertEqual(way_between(log, "y", "y"), [(1, 2), (0, 1)])
        self.assertIs(has_way(log, "y", "y"), True)
        self.assertEqual(worse_than(log), {"x": ["x", "y"], "y": ["x", "y"], "z": []})

    def test_as_the_document_tells_it(self):
        for log in random_logs(7, 120, most_events=8):
            before = parts_of(log)
            below = helpers.below(log)
            self.assertEqual(worse_than(log), below)
            self.assertEqual(list(worse_than(log)), log.item_names)
            for worse in log.item_names:
                for better in log.item_names:
                    way = helpers.way(log, worse, better)
                    self.assertEqual(way_between(log, worse, better), way)
                    self.assertIs(has_way(log, worse, better), worse in below[better])
                    self.assertEqual(way is not None, worse in below[better])
            self.assertEqual(parts_of(log), before)

    def test_the_longest_chain(self):
        items = [f"i{number}" for number in range(20)]
        rows = []
        for number in range(19):
            rows += [(items[number], 0), (items[number + 1], 1), None]
        log = one_judge("rises", *rows, items=items)
        self.assertEqual(way_between(log, "i0", "i19"), [(3 * k, 3 * k + 1) for k in range(19)])
        self.assertEqual(worse_than(log)["i19"], items[:19])
        self.assertEqual(covers_of(log), list(zip(items, items[1:])))


class TestedWays(unittest.TestCase):
    def setUp(self):
        self.log = one_judge("rises", ("x", 0), ("y", 1), ("z", 2), None, ("y", 0), ("x", 1), ("x", 2))

    def test_ways(self):
        for way, worse, better in (([(0, 1)], "x", "y"), ([(0, 1), (1, 2)], "x", "z"), ([(0, 2)], "x", "z"),
                                   ([(0, 1), (4, 5)], "x", "x"), ([(0, 1), (4, 6), (0, 1), (1, 2)], "x", "z"),
                                   ([(5, 6)], "x", "x"), ([(5, 6), (5, 6), (0, 1)], "x", "y")):
            with self.subTest(way=way):
                self.assertIs(is_way(self.log, way, worse, better), True)

    def test_no_ways(self):
        way = [(0, 1), (4, 5), (0, 2)]
        self.assertIs(is_way(self.log, way, "x", "z"), True)
        wrong = [[], way[:1] + way[2:], way[1:], way[:2], [way[0]] + way, way + [(0, 2)], way[::-1],
                 [(1, 0), (4, 5), (0, 2)], [(0, 1), (5, 4), (0, 2)], [(0, 1), (4, 5), (2, 0)],
                 [(0, 1), (4, 5), (1, 2)], [(0, 1), (4, 6), (3, 2)], [(0, 1), (1, 5), (0, 2)],
                 [(0, 0)], [(-7, 2)], [(0, -5)], [(0, 7)], [(7, 2)], [(10 ** 20, 2)], [(3, 2)], [(0, 3)]]
        for other in wrong:
            with self.subTest(way=other):
                given = list(other)
                self.assertIs(is_way(self.log, given, "x", "z"), False)
                self.assertEqual(given, other)

    def test_ends(self):
        self.assertIs(is_way(self.log, [(0, 1)], "x", "x"), False)
        self.assertIs(is_way(self.log, [(0, 1)], "y", "y"), False)
        self.assertIs(is_way(self.log, [(0, 1)], "y", "x"), False)
        self.assertIs(is_way(self.log, [], "x", "x"), False)

    def test_as_the_document_tells_it(self):
        for log in random_logs(8, 40, most_events=6):
            for worse in log.item_names:
                for better in log.item_names:
                    for pair in pairs_around(log):
                        self.assertIs(is_way(log, [pair], worse, better), helpers.is_way(log, [pair], worse, better))
                    for many in (1, 2, 3):
                        for way in helpers.ways_of_length(log, worse, better, many):
                            self.assertIs(is_way(log, way, worse, better), True)
                            turned = [(second, first) for first, second in way]
                            self.assertIs(is_way(log, turned, worse, better), False)
                            for other in (way[1:], way[:-1], way[::-1], way + way):
                                told = helpers.is_way(log, other, worse, better)
                                self.assertIs(is_way(log, other, worse, better), told)


class UnknownItems(unittest.TestCase):
    def test_first_and_second(self):
        log = one_judge("rises", ("x", 0), ("x", 1))
        calls = [links_between, way_between, has_way, lambda *told: is_way(told[0], [], *told[1:]),
                 lambda *told: is_way(told[0], [(-1, 99)], *told[1:]), lambda *told: is_way(told[0], [(0, 1)], *told[1:])]
        for number, call in enumerate(calls):
            for worse, better, name in (("w", "x", "w"), ("x", "w", "w"), ("w", "v", "w"), ("v", "w", "v"),
                                        ("j", "x", "j"), ("x", "", ""), ("X", "Y", "X")):
                with self.subTest(number=number, worse=worse, better=better):
                    with self.assertRaises(UnknownItem) as caught:
                        call(log, worse, better)
                    self.assertEqual(caught.exception.name, name)


class Covers(unittest.TestCase):
    def test_covers_and_least_links(self):
        log = one_judge("rises", ("x", 0), ("z", 1), ("y", 1), ("y", 1), None, ("z", 0), ("y", 1), ("x", 0))
        self.assertEqual(covers_of(log), [("x", "z"), ("z", "y")])
        self.assertEqual(least_links(log), [(0, 1), (5, 6)])

    def test_pairs_stand_in_the_order_of_the_items(self):
        log = one_judge("falls", ("a", 1), ("b", 1), ("c", 0), ("d", 0), items=["d", "b", "a", "c"])
        self.assertEqual(covers_of(log), [("d", "b"), ("d", "a"), ("c", "b"), ("c", "a")])
        self.assertEqual(least_links(log), [(2, 0), (2, 1), (3, 0), (3, 1)])

    def test_nothing_said(self):
        log = Log(["x", "y"], 1, [("j", "stays")], [])
        self.assertEqual((covers_of(log), least_links(log)), ([], []))

    def test_contradictions(self):
        for log in (one_judge("rises", ("x", 0), ("x", 1)), one_judge("stays", ("x", 0), ("y", 0), ("x", 1)),
                    one_judge("falls", ("y", 1), ("x", 0), None, ("x", 1), ("y", 0))):
            for call in (covers_of, least_links):
                with self.assertRaises(Unexplained):
                    call(log)

    def test_as_the_document_tells_it(self):
        contradictions = 0
        for log in random_logs(9, 200):
            below = helpers.below(log)
            if any(item in below[item] for item in below):
                contradictions += 1
                for call in (covers_of, least_links):
                    with self.assertRaises(Unexplained):
                        call(log)
                continue
            names = log.item_names
            covers = [(worse, better) for worse in names for better in names if worse in below[better]
                      and not any(worse in below[third] and third in below[better] for third in names)]
            self.assertEqual(covers_of(log), covers)
            self.assertEqual(least_links(log), sorted(links_between(log, *cover)[0] for cover in covers))
            self.assert_least(log, below)
        self.assertGreater(contradictions, 20)
        self.assertLess(contradictions, 180)

    def assert_least(self, log, below):
        """Ways of the least links lead between the same items, and without one of them they do not."""
        least = least_links(log)
        self.assertEqual(links.ways_to(log.item_names, links.first_links(log, least)), below)
        for link in least:
            fewer = [other for other in least if other != link]
            self.assertNotEqual(links.ways_to(log.item_names, links.first_links(log, fewer)), below)


class Copies(unittest.TestCase):
    def test_what_is_returned_is_new(self):
        log = one_judge("rises", ("x", 0), ("y", 1), ("z", 2))
        calls = [links_of, lambda told: links_between(told, "x", "y"), lambda told: way_between(told, "x", "z"),
                 covers_of, least_links]
        for number, call in enumerate(calls):
            with self.subTest(number=number):
                before = list(call(log))
                call(log).clear()
                self.assertEqual(call(log), before)
        told = worse_than(log)
        told["x"].append("z")
        told.pop("y")
        self.assertEqual(worse_than(log), {"x": [], "y": ["x"], "z": ["x", "y"]})


if __name__ == "__main__":
    unittest.main()
