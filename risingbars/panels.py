"""Offices: logs of the same items that are joined, and which of them contradict one another."""

from risingbars.errors import TooLarge, UnlikeLogs
from risingbars.explain import explains, ring_of
from risingbars.least import least_lists
from risingbars.logs import MOST_EVENTS, MOST_JUDGES, Log
from risingbars.pairs import sure_pairs
from risingbars.relation import depths_by, links_by_pair


def joined(logs):
    """Return the joined log of the offices."""
    _check_offices(logs)
    judges = []
    events = []
    for office, log in enumerate(logs):
        names = {name: f"o{office}j{number}" for number, (name, _) in enumerate(log.judges)}
        judges.extend([(names[name], drift) for name, drift in log.judges])
        events.extend([(event[0], names[event[1]]) + event[2:] for event in log.events])
    return Log(logs[0].item_names, logs[0].grades, judges, events)


def explain_all(logs, qualities):
    """Return True if the qualities explain the log of each office."""
    _check_offices(logs)
    return all([explains(log, qualities) for log in logs])


def ring_in(logs):
    """Return the first ring of the joined log, with the offices and the places in their logs, or None."""
    ring = ring_of(joined(logs))
    if ring is None:
        return None
    spots = [(office, place) for office, log in enumerate(logs) for place in range(len(log.events))]
    # Both answers of a link are of one judge, so they are of one office.
    return [(spots[first][0], spots[first][1], spots[second][1]) for first, second in ring]


def quarrels(logs):
    """Return all quarrels of the offices."""
    _check_offices(logs)
    return _least_lots(logs, lambda lot: not _agree(logs, lot))


def peaces(logs):
    """Return all peaces of the offices."""
    _check_offices(logs)
    return _least_lots(logs, lambda lot: _agree(logs, [office for office in range(len(logs)) if office not in lot]))


def together(logs):
    """Return the sure pairs of the joined log that are sure in no office alone."""
    pairs = sure_pairs(joined(logs))
    known = [pair for log in logs for pair in sure_pairs(log)]
    return [pair for pair in pairs if pair not in known]


def _check_offices(logs):
    """Raise UnlikeLogs or TooLarge if the logs cannot be offices together."""
    for log in logs:
        if log.item_names != logs[0].item_names or log.grades != logs[0].grades:
            raise UnlikeLogs("the offices have not the same items in the same order and the same highest grade")
    if sum([len(log.judges) for log in logs]) > MOST_JUDGES or sum([len(log.events) for log in logs]) > MOST_EVENTS:
        raise TooLarge("the offices have too many judges or events together")


def _agree(logs, lot):
    """Return True if these offices, if there are any, have a joined log that is explained."""
    pairs = [pair for office in lot for pair in links_by_pair(logs[office])]
    return depths_by(logs[0].item_names, pairs) is not None


def _least_lots(logs, does):
    """Return the ascending lots of offices for which the function returns True, but for none with fewer of them."""
    return sorted([tuple(lot) for lot in least_lists(list(range(len(logs))), does)])
