"""What to ask next, and what the answers can settle."""

from risingbars.errors import TooLarge
from risingbars.explain import depths_of
from risingbars.grades import ends_of, neighbours
from risingbars.links import check_items
from risingbars.logs import MOST_EVENTS
from risingbars.pairs import order_saying
from risingbars.relation import surely_worse

MOST_ROWS = 5000


def outcomes(log, judge, item):
    """Return the tuples of each outcome of the ask and of the list of the pairs that it makes sure."""
    below = surely_worse(log)
    _check_ask(log, judge, item)
    _check_events(log, 1)
    return _outcomes_by(log, below, neighbours(log, judge, len(log.events)), item)


def sure_gain(log, judge, item):
    """Return the least number of pairs that an outcome of the ask makes sure."""
    return min([len(pairs) for _, pairs in outcomes(log, judge, item)])


def best_gain(log, judge, item):
    """Return the greatest number of pairs that an outcome of the ask makes sure."""
    return max([len(pairs) for _, pairs in outcomes(log, judge, item)])


def quiet_grades(log, judge, item):
    """Return the outcomes of the ask that make nothing sure."""
    return [grade for grade, pairs in outcomes(log, judge, item) if len(pairs) == 0]


def best_asks(log):
    """Return all asks with the greatest sure gain, and, of these, the greatest best gain."""
    below = surely_worse(log)
    _check_events(log, 1)
    gains = {}
    for (judge, item, _), pairs in _answers_behind(log, below):
        gains.setdefault((judge, item), []).append(len(pairs))
    best = max([(min(row), max(row)) for row in gains.values()])
    return [ask for ask, row in gains.items() if (min(row), max(row)) == best]


def is_open(log, one, other):
    """Return True if the two items are different and open."""
    below = surely_worse(log)
    check_items(log, [one, other])
    return one != other and one not in below[other] and other not in below[one]


def even_qualities(log, one, other):
    """Return qualities that explain the log and are equal for the two items, or None if there are none."""
    depths = depths_of(log)
    check_items(log, [one, other])
    if one == other:
        return depths
    order = order_saying(log, one, other, "alike")
    if order is None:
        return None
    return {item: number for number, step in enumerate(order) for item in step}


def open_answers(log, one, other, asks):
    """Return grades for the asks with which the two items are still open, or None if they are not open."""
    qualities = even_qualities(log, one, other)
    for judge, item in asks:
        _check_ask(log, judge, item)
    _check_events(log, len(asks))
    if one == other or qualities is None:
        return None
    # Qualities that are equal for both and explain the log with the answers leave the items open.
    return [_grade_by(log, qualities, judge, item) for judge, item in asks]


def could_prove(log, worse, better, most):
    """Return the first proof row of at most so many answers, or None if there is none."""
    below = surely_worse(log)
    check_items(log, [worse, better])
    _check_rows(log, most)
    if worse in below[better]:
        return []
    for many in range(1, most + 1):
        row = _first_proof(log, (worse, better), many)
        if row is not None:
            return row
    return None


def _check_ask(log, judge, item):
    """Raise UnknownJudge or UnknownItem if there is no such ask."""
    log.drift_of(judge)
    check_items(log, [item])


def _check_events(log, many):
    """Raise TooLarge if the log has no room for so many more events."""
    if len(log.events) + many > MOST_EVENTS:
        raise TooLarge("the log would have too many events")


def _check_rows(log, most):
    """Raise TooLarge if there are too many rows of so many answers, or events with them."""
    rows = 1
    for _ in range(most):
        rows = rows * len(log.judges) * len(log.item_names) * (log.grades + 1)
    if rows > MOST_ROWS:
        raise TooLarge("there are too many rows of answers")
    _check_events(log, most)


def _outcomes_by(log, below, near, item):
    """Return the outcomes of asking for the item the judge whose answers `near` tells; `below` tells what is sure."""
    least, greatest = ends_of(log, below, near, item)
    return [(grade, _pairs_with(log, below, near, item, grade)) for grade in range(least, greatest + 1)]


def _pairs_with(log, below, near, item, grade):
    """Return the pairs that a last answer with this grade makes sure."""
    later, earlier = near
    worst = [item] + sorted(set([log.item_at(at) for at in earlier if log.grade_at(at) < grade]))
    best = [item] + sorted(set([log.item_at(at) for at in later if log.grade_at(at) > grade]))
    # New links lead to the item or from it, so each new way leads through it.
    starts = [name for name in below if any([name == other or name in below[other] for other in worst])]
    ends = [name for name in below if any([name == other or other in below[name] for other in best])]
    return [(worse, better) for worse in starts for better in ends if worse != better and worse not in below[better]]


def _answers_behind(log, below):
    """Return, for each answer with which the log is explained, the tuple of it and the pairs that it makes sure."""
    found = []
    for judge, _ in log.judges:
        near = neighbours(log, judge, len(log.events))
        for item in below:
            found.extend([((judge, item, grade), pairs) for grade, pairs in _outcomes_by(log, below, near, item)])
    return found


def _grade_by(log, qualities, judge, item):
    """Return a grade of a last answer, so that the qualities explain the log with all such answers as without them."""
    later, _ = neighbours(log, judge, len(log.events))
    # What has a higher grade and must be better has more quality then. If there is also something that must be
    # worse, the judge stays, and it has a lower grade and so less quality than an answer with the told grade.
    # Items with more quality do not get a lower grade, so such answers of one judge make no wrong links either.
    return max([log.grade_at(at) for at in later if qualities[log.item_at(at)] <= qualities[item]], default=0)


def _first_proof(log, pair, many):
    """Return the first proof row of so many answers, or None; no fewer answers make the pair sure."""
    for (judge, item, grade), pairs in _answers_behind(log, surely_worse(log)):
        if many == 1:
            row = [] if pair in pairs else None
        else:
            row = _first_proof(log.with_event(("answer", judge, item, grade)), pair, many - 1)
        if row is not None:
            return [(judge, item, grade)] + row
    return None
