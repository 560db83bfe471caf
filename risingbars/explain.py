"""What explains a log: qualities and bars; or the ring that tells that nothing does."""

from risingbars.errors import Unexplained
from risingbars.links import first_links, links_of
from risingbars.relation import depths_by, first_ring, links_by_pair


def ring_of(log):
    """Return the first ring of all items, or None."""
    return first_ring(log.item_names, first_links(log, links_of(log)))


def explains(log, qualities):
    """Return True if the qualities explain the log."""
    return all([qualities[worse] < qualities[better] for worse, better in links_by_pair(log)])


def depths_of(log):
    """Return the dict of the depths. Raise Unexplained if the log contradicts itself."""
    depths = depths_by(log.item_names, links_by_pair(log))
    if depths is None:
        raise Unexplained("the log contradicts itself")
    return depths


def low_of(log, qualities, place, grade):
    """Return the low of the answer at the place for the grade, or None if there is none."""
    lower = [other for other in log.stretch_of(place) if log.grade_at(other) < grade]
    items = [log.item_at(other) for other in lower if log.in_order(other, place)]
    return max([qualities[item] for item in items], default=None)


def high_of(log, qualities, place, grade):
    """Return the high of the answer at the place for the grade, or None if there is none."""
    higher = [other for other in log.stretch_of(place) if log.grade_at(other) >= grade]
    items = [log.item_at(other) for other in higher if log.in_order(place, other)]
    return min([qualities[item] for item in items], default=None)


class Explanation:
    """Qualities of the items, and bars of the answers for the grades from 1 on."""

    def __init__(self, qualities, bars):
        self.qualities = dict(qualities)
        self.bars = {place: list(row) for place, row in bars.items()}


def explanation(log):
    """Return an Explanation with the depths and the least bars, or None if the log contradicts itself."""
    depths = depths_by(log.item_names, links_by_pair(log))
    if depths is None:
        return None
    return Explanation(depths, {place: _bars_above(log, depths, place) for place in log.answers()})


def check_explanation(log, told):
    """Return True if the Explanation explains the log, and tells of just its items, answers and grades."""
    answers = log.answers()
    if sorted(told.qualities) != sorted(log.item_names) or sorted(told.bars) != answers:
        return False
    for place in answers:
        quality = told.qualities[log.item_at(place)]
        if not bars_fit(told.bars[place], log.grades, quality, log.grade_at(place)):
            return False
    return all([bars_at_most(told.bars[one], told.bars[other])
                for one in answers for other in answers if log.in_order(one, other)])


def bars_fit(bars, grades, quality, given):
    """Return True if there is a bar for each of so many grades, none falls, and they make the quality this grade."""
    if len(bars) != grades or sorted(bars) != bars:
        return False
    return all([(bar <= quality) == (grade <= given) for grade, bar in enumerate(bars, start=1)])


def bars_at_most(bars, others):
    """Return True if each bar is at most the other one for the same grade."""
    return all([bar <= other for bar, other in zip(bars, others)])


def _bars_above(log, qualities, place):
    """Return the bars of the answer that are one more than its lows, or 0 where there is none."""
    lows = [low_of(log, qualities, place, grade) for grade in range(1, log.grades + 1)]
    return [0 if low is None else low + 1 for low in lows]
