"""Logs for the tests, and what DOC.md says of them, worked out in the most literal way."""

from itertools import product
from random import Random

from risingbars.logs import Log

DRIFTS = ("rises", "falls", "stays")


def plain_log():
    """A log with a judge of each drift, resets of two of them, and an item of which nothing is said."""
    return Log(["x", "y", "z"], 2, [("ann", "rises"), ("bob", "falls"), ("cid", "stays")], [
        ("answer", "ann", "x", 0),
        ("answer", "bob", "y", 2),
        ("answer", "ann", "y", 1),
        ("reset", "bob"),
        ("answer", "cid", "x", 1),
        ("answer", "bob", "x", 1),
        ("answer", "ann", "x", 1),
        ("reset", "ann"),
        ("answer", "bob", "y", 0),
        ("answer", "ann", "y", 2),
        ("answer", "cid", "x", 1),
    ])


def parts_of(log):
    """All parts of a log, to see whether it stays as it was."""
    return (log.item_names, log.grades, log.judges, log.events)


def random_logs(seed, many, most_events=9):
    """So many logs, always the same ones for a seed."""
    random = Random(seed)
    logs = []
    for _ in range(many):
        items = ["a", "b", "c", "d"][:random.randint(1, 4)]
        grades = random.randint(1, 3)
        judges = [(name, random.choice(DRIFTS)) for name in ["a", "j", "k"][:random.randint(1, 3)]]
        events = []
        for _ in range(random.randint(0, most_events)):
            judge = random.choice(judges)[0]
            if random.random() < 0.15:
                events.append(("reset", judge))
            else:
                events.append(("answer", judge, random.choice(items), random.randint(0, grades)))
        logs.append(Log(items, grades, judges, events))
    return logs


def is_answer(log, place):
    return place in range(len(log.events)) and log.events[place][0] == "answer"


def of_one_stretch(log, one, other):
    """Point 8, for the places of two answers."""
    judge = log.events[one][1]
    if judge != log.events[other][1]:
        return False
    return ("reset", judge) not in log.events[min(one, other):max(one, other)]


def in_order(log, one, other):
    """Point 8, for the places of two answers."""
    if not of_one_stretch(log, one, other):
        return False
    drift = dict(log.judges)[log.events[one][1]]
    return drift == "stays" or one == other or (drift == "rises") == (one < other)


def links(log):
    """Point 13."""
    places = [place for place in range(len(log.events)) if is_answer(log, place)]
    return [(first, second) for first, second in product(places, places)
            if in_order(log, first, second) and log.events[first][3] < log.events[second][3]]


def is_way(log, way, worse, better):
    """Point 14."""
    all_links = links(log)
    if not way or any(link not in all_links for link in way):
        return False
    items = [(log.events[first][2], log.events[second][2]) for first, second in way]
    joints = [worse] + [end for _, end in items]
    return joints[:-1] == [start for start, _ in items] and joints[-1] == better


def ways_of_length(log, worse, better, many):
    """All ways with so many links, in order."""
    rows = [[]]
    for _ in range(many):
        rows = [row + [link] for row in rows for link in links(log)
                if (log.events[row[-1][1]][2] if row else worse) == log.events[link[0]][2]]
    return sorted(row for row in rows if log.events[row[-1][1]][2] == better)


def way(log, worse, better):
    """The first way, or None. A shortest one leads from no item twice."""
    for many in range(1, len(log.item_names) + 1):
        ways = ways_of_length(log, worse, better, many)
        if ways:
            return ways[0]
    return None


def below(log):
    """The dict of the items that are worse, by joining ways until none is new."""
    pairs = {(log.events[first][2], log.events[second][2]) for first, second in links(log)}
    while True:
        joined = {(one, end) for one, middle in pairs for start, end in pairs if middle == start}
        if joined <= pairs:
            break
        pairs |= joined
    return {better: [worse for worse in log.item_names if (worse, better) in pairs] for better in log.item_names}
