"""Logs for the tests, and what DOC.md says of them, worked out in the most literal way."""

from itertools import combinations, product
from random import Random

from risingbars.errors import BarError
from risingbars.logs import Log

DRIFTS = ("rises", "falls", "stays")


def plain_log():
    """A log with a judge of each drift, resets of two of them, and an item of which nothing is said."""
    return Log(["x", "y", "z"], 2, [("ann", "rises"), ("bob", "falls"), ("cid", "stays")], [
        ("answer", "ann", "x", 0),
        ("answer", "bob", "y", 2),
        ("answer", "ann", "y", 1),
        ("reset", "bob"),
        ("answer", "cid", "x", 1),
        ("answer", "bob", "x", 1),
        ("answer", "ann", "x", 1),
        ("reset", "ann"),
        ("answer", "bob", "y", 0),
        ("answer", "ann", "y", 2),
        ("answer", "cid", "x", 1),
    ])


def parts_of(log):
    """All parts of a log, to see whether it stays as it was."""
    return (log.item_names, log.grades, log.judges, log.events)


def random_logs(seed, many, most_events=9):
    """So many logs, always the same ones for a seed."""
    random = Random(seed)
    logs = []
    for _ in range(many):
        items = ["a", "b", "c", "d"][:random.randint(1, 4)]
        grades = random.randint(1, 3)
        judges = [(name, random.choice(DRIFTS)) for name in ["a", "j", "k"][:random.randint(1, 3)]]
        events = []
        for _ in range(random.randint(0, most_events)):
            judge = random.choice(judges)[0]
            if random.random() < 0.15:
                events.append(("reset", judge))
            else:
                events.append(("answer", judge, random.choice(items), random.randint(0, grades)))
        logs.append(Log(items, grades, judges, events))
    return logs


def explained_logs(seed, many, most_events=9):
    """So many logs that do not contradict themselves."""
    return [log for log in random_logs(seed, 4 * many, most_events) if not contradicts(log)][:many]


def contradictory_logs(seed, many, most_events=9):
    return [log for log in random_logs(seed, 10 * many, most_events) if contradicts(log)][:many]


def log_of_pairs(items, pairs):
    """A log that says of each of these pairs, and of what they come to, that the first item is worse."""
    events = []
    for worse, better in pairs:
        events += [("reset", "j"), ("answer", "j", worse, 0), ("answer", "j", better, 1)]
    return Log(list(items), 1, [("j", "rises")], events)


def log_of_chains(*lengths, bottom=False):
    """A log of so many items one above the other, for each length, and if told of one that is below all."""
    chains = [[f"c{number}n{at}" for at in range(length)] for number, length in enumerate(lengths)]
    pairs = [pair for chain in chains for pair in zip(chain, chain[1:])]
    items = [item for chain in chains for item in chain]
    if bottom:
        pairs += [("bottom", chain[0]) for chain in chains]
        items = ["bottom"] + items
    return log_of_pairs(items, pairs)


def random_rankings(seed, many, items="hgfedcba"):
    """So many logs that say something of many items, without a ring."""
    random = Random(seed)
    logs = []
    for _ in range(many):
        ranks = random.sample(items, len(items))
        told = random.random()
        pairs = [(ranks[low], ranks[high]) for low, high in combinations(range(len(ranks)), 2) if random.random() < told / 2]
        logs.append(log_of_pairs(items, random.sample(pairs, len(pairs))))
    return logs


def raised(call, *values, **named):
    """The class of the error of the program that the call raises, with the value of its attribute, or None."""
    try:
        call(*values, **named)
    except BarError as error:
        return (type(error), *vars(error).values())
    return None


def is_answer(log, place):
    return place in range(len(log.events)) and log.events[place][0] == "answer"


def of_one_stretch(log, one, other):
    """Point 8, for the places of two answers."""
    judge = log.events[one][1]
    if judge != log.events[other][1]:
        return False
    return ("reset", judge) not in log.events[min(one, other):max(one, other)]


def in_order(log, one, other):
    """Point 8, for the places of two answers."""
    if not of_one_stretch(log, one, other):
        return False
    drift = dict(log.judges)[log.events[one][1]]
    return drift == "stays" or one == other or (drift == "rises") == (one < other)


def links(log):
    """Point 13."""
    places = [place for place in range(len(log.events)) if is_answer(log, place)]
    return [(first, second) for first, second in product(places, places)
            if in_order(log, first, second) and log.events[first][3] < log.events[second][3]]


def is_way(log, way, worse, better):
    """Point 14."""
    all_links = links(log)
    if not way or any(link not in all_links for link in way):
        return False
    items = [(log.events[first][2], log.events[second][2]) for first, second in way]
    joints = [worse] + [end for _, end in items]
    return joints[:-1] == [start for start, _ in items] and joints[-1] == better


def ways_of_length(log, worse, better, many, told=None):
    """All ways with so many links, in order; of the told links, or of those of the log."""
    told = links(log) if told is None else told
    rows = [[]]
    for _ in range(many):
        rows = [row + [link] for row in rows for link in told
                if (log.events[row[-1][1]][2] if row else worse) == log.events[link[0]][2]]
    return sorted(row for row in rows if log.events[row[-1][1]][2] == better)


def way(log, worse, better, told=None):
    """The first way, or None. A shortest one leads from no item twice."""
    for many in range(1, len(log.item_names) + 1):
        ways = ways_of_length(log, worse, better, many, told)
        if ways:
            return ways[0]
    return None


def below(log):
    """The dict of the items that are worse, by joining ways until none is new."""
    pairs = {(log.events[first][2], log.events[second][2]) for first, second in links(log)}
    while True:
        joined = {(one, end) for one, middle in pairs for start, end in pairs if middle == start}
        if joined <= pairs:
            break
        pairs |= joined
    return {better: [worse for worse in log.item_names if (worse, better) in pairs] for better in log.item_names}


def contradicts(log):
    """Point 15."""
    return any(item in worse for item, worse in below(log).items())


def first_ring(log, told=None):
    """The first ring of all items, or None. A shortest one leads from no item twice."""
    for many in range(1, len(log.item_names) + 1):
        rings = sorted(ring for item in log.item_names for ring in ways_of_length(log, item, item, many, told))
        if rings:
            return rings[0]
    return None


def answers(log):
    """The item and the grade of each answer."""
    return {place: log.events[place][2:] for place in range(len(log.events)) if is_answer(log, place)}


def ordered_answers(log):
    """All pairs of answers that are in order."""
    places = list(answers(log))
    return [(one, other) for one, other in product(places, places) if in_order(log, one, other)]


def all_qualities(log):
    """Qualities for each way to tell which items are worse, alike and better, some of them several times."""
    names = log.item_names
    return [dict(zip(names, row)) for row in product(range(len(names)), repeat=len(names))]


def raised_bars(grades, given, bound, qualities, start=None):
    """The least bars that explain the answers with these qualities (point 10), or None.

    `given` tells the item and the grade of each answer, `bound` the pairs of answers of which the first one has bars
    of at most those of the second one, `start` a bar that one answer has at least for one grade: the place, the
    grade and the bar. Each bar is raised until it is where it must be; all bars begin far below all qualities.
    """
    far = min(qualities.values()) - 1000
    bars = {place: [far] * grades for place in given}
    if start:
        bars[start[0]][start[1] - 1] = start[2]
    while True:
        before = {place: list(row) for place, row in bars.items()}
        for place, (item, grade) in given.items():
            for at in range(grades):
                least = qualities[item] + 1 if at + 1 > grade else far
                bars[place][at] = max(bars[place][at], least, bars[place][at - 1] if at else far)
        for one, other in bound:
            bars[other] = [max(pair) for pair in zip(bars[one], bars[other])]
        if bars == before:
            break
    for place, (item, grade) in given.items():
        if any(bar > qualities[item] for bar in bars[place][:grade]):
            return None
    return bars


def explained_by(log, qualities):
    """Whether there are bars with which the qualities explain the log, by point 10."""
    return raised_bars(log.grades, answers(log), ordered_answers(log), qualities) is not None


def orders_of(names):
    """All orders of the names, by point 24."""
    if not names:
        return [[]]
    found = []
    for many in range(1, len(names) + 1):
        for step in combinations(names, many):
            rest = [name for name in names if name not in step]
            found += [[list(step)] + order for order in orders_of(rest)]
    return found


def explaining_orders(log):
    """All orders that explain the log: by links, as point 17 tells and the tests of `explains` see."""
    found = []
    ends = [(log.events[first][2], log.events[second][2]) for first, second in links(log)]
    for order in orders_of(log.item_names):
        number = {name: at for at, step in enumerate(order) for name in step}
        if all(number[worse] < number[better] for worse, better in ends):
            found.append(order)
    return found


class LiteralCase:
    """A case by points 35 to 38, with the arguments of Case."""

    def __init__(self, log, *, drifts=None, struck=None, resets=None, moves=None):
        self.log = log
        self.drifts = {**dict(log.judges), **(drifts or {})}
        self.resets = resets or []
        self.moves = moves
        self.given = {place: told for place, told in answers(log).items() if place not in (struck or [])}
        self.links = [(one, other) for one, other in product(self.given, self.given)
                      if self.given[one][1] < self.given[other][1] and self.is_bound(one, other)]

    def marked_between(self, places, one, other):
        """Whether an answer of the judge of the first answer is at one of the places behind the earlier one, up to
        the later one."""
        judge = self.log.events[one][1]
        return any(self.log.events[place][1] == judge and min(one, other) < place <= max(one, other)
                   for place in places)

    def of_one_stretch(self, one, other):
        return of_one_stretch(self.log, one, other) and not self.marked_between(self.resets, one, other)

    def in_order(self, one, other):
        drift = self.drifts[self.log.events[one][1]]
        follows = {"rises": one <= other, "falls": one >= other, "stays": True}
        return self.of_one_stretch(one, other) and follows[drift]

    def together(self, one, other):
        if one == other:
            return True
        return self.moves is not None and self.of_one_stretch(one, other) and not self.marked_between(
            self.moves, one, other)

    def is_bound(self, one, other):
        return self.in_order(one, other) or self.together(one, other)

    def bound(self):
        return [(one, other) for one, other in product(self.given, self.given) if self.is_bound(one, other)]

    def ring(self):
        return first_ring(self.log, self.links)

    def is_explained(self):
        """Whether any qualities have bars with which they explain the case."""
        bound = self.bound()
        return any(raised_bars(self.log.grades, self.given, bound, told) is not None
                   for told in all_qualities(self.log))

    def depth(self, item):
        """The greatest number of links of a way to the item, if there is no ring."""
        names = self.log.item_names
        return max([many for many in range(1, len(names)) for name in names
                    if ways_of_length(self.log, name, item, many, self.links)], default=0)

    def is_explained_by(self, qualities, bars):
        """Point 10, with point 36."""
        if sorted(qualities) != sorted(self.log.item_names) or sorted(bars) != sorted(self.given):
            return False
        for place, (item, grade) in self.given.items():
            row = bars[place]
            if len(row) != self.log.grades or any(low > high for low, high in zip(row, row[1:])):
                return False
            if any((bar <= qualities[item]) != (grade >= number) for number, bar in enumerate(row, 1)):
                return False
        for one, other in product(self.given, self.given):
            if self.in_order(one, other) and any(low > high for low, high in zip(bars[one], bars[other])):
                return False
            if self.together(one, other) and bars[one] != bars[other]:
                return False
        return True


def random_changes(random, log):
    """Some arguments for a case of the log."""
    given = list(answers(log))

    def some(most):
        return random.choices(given, k=random.randint(0, most)) if given else []

    drifts = {judge: random.choice(DRIFTS) for judge, _ in log.judges if random.random() < 0.3}
    told = {"drifts": drifts, "struck": some(2), "resets": some(2), "moves": some(4)}
    return {name: value for name, value in told.items() if random.random() < 0.6}


def parts_of_list(places):
    """All lists of these places, by their number and then as Python compares lists."""
    return [list(lot) for many in range(len(places) + 1) for lot in combinations(places, many)]


def literal_least(places, is_enough):
    """Point 47."""
    enough = [lot for lot in parts_of_list(places) if is_enough(lot)]
    return [lot for lot in enough if not any([place for place in lot if place != out] in enough for out in lot)]


def yes_and_no_logs(seed, many, most_events=9):
    """Logs of which the highest grade is 1, of judges of all drifts."""
    random = Random(seed)
    logs = []
    for _ in range(many):
        judges = [("j", random.choice(["rises", "falls"])), ("k", random.choice(["rises", "falls", "stays"]))]
        events = []
        for _ in range(random.randint(0, most_events)):
            judge = random.choice("jjk")
            if random.random() < 0.12:
                events.append(("reset", judge))
            else:
                events.append(("answer", judge, random.choice("xyz"), random.randint(0, 1)))
        logs.append(Log(["x", "y", "z"], 1, judges, events))
    return logs


def moving_logs(seed, many, most_events=9):
    """Logs of judges whose grades go down, or up, with the drift, so that they seldom contradict themselves."""
    random = Random(seed)
    logs = []
    for _ in range(many):
        judges = [("j", random.choice(["rises", "falls"])), ("k", random.choice(["rises", "falls"]))]
        events = []
        for at in range(random.randint(4, most_events)):
            judge, drift = random.choice(judges)
            grade = (most_events - at if drift == "rises" else at) // 2 - 1 + random.randint(0, 2)
            events.append(("answer", judge, random.choice("xyz"), min(max(grade, 0), 3)))
        logs.append(Log(["x", "y", "z"], 3, judges, events))
    return [log for log in logs if not contradicts(log)]
