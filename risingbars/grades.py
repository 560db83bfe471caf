"""The grades that a lost or a coming answer can have, with the papers that tell why."""

from risingbars.links import check_items, first_links, first_way, is_way, links_of
from risingbars.pairs import order_of
from risingbars.relation import depths_by, links_by_pair, surely_worse


class GradeRange:
    """The least and the greatest possible grade, and the papers of both ends."""

    def __init__(self, least, greatest, above, below):
        self.least = least
        self.greatest = greatest
        self.above = _copied(above)
        self.below = _copied(below)


def grade_range(log, judge, place, item):
    """Return the GradeRange of the lost answer of the judge about the item at the place."""
    _check_lost(log, judge, place, item)
    worse = surely_worse(log)
    later, earlier = neighbours(log, judge, place)
    least, above = _least_end(log, worse, later, item)
    greatest, below = _greatest_end(log, worse, earlier, item)
    firsts = first_links(log, links_of(log))
    above_paper = None if above is None else (above, _path(firsts, log.item_at(above), item))
    below_paper = None if below is None else (below, _path(firsts, item, log.item_at(below)))
    return GradeRange(least, greatest, above_paper, below_paper)


def check_range(log, judge, place, item, told):
    """Return True if the papers of the GradeRange are papers of its ends."""
    _check_lost(log, judge, place, item)
    surely_worse(log)
    return (_is_above_paper(log, judge, place, item, told.least, told.above)
            and _is_below_paper(log, judge, place, item, told.greatest, told.below))


def possible_grades(log, judge, place, item):
    """Return the possible grades of the lost answer."""
    _check_lost(log, judge, place, item)
    least, greatest = ends_of(log, surely_worse(log), neighbours(log, judge, place), item)
    return list(range(least, greatest + 1))


def order_with(log, judge, place, item, grade):
    """Return an order that explains the log with this answer, or None if the grade is not possible."""
    _check_lost(log, judge, place, item)
    surely_worse(log)
    more = log.with_event_at(place, ("answer", judge, item, grade))
    depths = depths_by(more.item_names, links_by_pair(more))
    return None if depths is None else order_of(more, depths)


def forecast(log):
    """Return the dict from judges to dicts from items to the ends of the possible grades of a last answer."""
    worse = surely_worse(log)
    told = {}
    for judge, _ in log.judges:
        near = neighbours(log, judge, len(log.events))
        told[judge] = {item: ends_of(log, worse, near, item) for item in log.item_names}
    return told


def answer_range(log, place):
    """Return the ends of the possible grades for the answer at the place, by the log without it."""
    judge = log.judge_at(place)
    rest = log.without_event(place)
    return ends_of(rest, surely_worse(rest), neighbours(rest, judge, place), log.item_at(place))


def _copied(paper):
    return None if paper is None else (paper[0], list(paper[1]))


def _check_lost(log, judge, place, item):
    """Raise UnknownJudge, InvalidPlace or UnknownItem if there is no such lost answer."""
    log.stretch_at(judge, place)
    check_items(log, [item])


def neighbours(log, judge, place):
    """Return the answers before which a lost answer is in order, and those behind which it is."""
    stretch = log.stretch_at(judge, place)
    return ([at for at in stretch if log.lost_first(judge, place, at)],
            [at for at in stretch if log.lost_second(judge, place, at)])


def _least_end(log, worse, later, item):
    """Return the least possible grade and the place of an answer that tells why, or None if the grade is 0."""
    told = [(log.grade_at(at), at) for at in later if log.item_at(at) == item or log.item_at(at) in worse[item]]
    least = max(told, default=(0, None))
    return least if least[0] > 0 else (0, None)


def _greatest_end(log, worse, earlier, item):
    """Return the greatest possible grade and the place of an answer that tells why, or None if it is the highest."""
    told = [(log.grade_at(at), at) for at in earlier if log.item_at(at) == item or item in worse[log.item_at(at)]]
    greatest = min(told, default=(log.grades, None))
    return greatest if greatest[0] < log.grades else (log.grades, None)


def ends_of(log, worse, near, item):
    """Return the tuple of the least and the greatest possible grade."""
    return (_least_end(log, worse, near[0], item)[0], _greatest_end(log, worse, near[1], item)[0])


def _path(firsts, worse, better):
    """Return the first way between the items, the empty list if they are one."""
    return [] if worse == better else first_way(firsts, worse, better)


def _is_path(log, way, worse, better):
    """Return True if the list is a way between the items, or, if they are one, the empty list."""
    return len(way) == 0 if worse == better else is_way(log, way, worse, better)


def _is_above_paper(log, judge, place, item, grade, paper):
    """Return True if this is a paper of `least` with this grade."""
    if paper is None:
        return grade == 0
    at, way = paper
    if not log.is_answer(at) or log.grade_at(at) != grade or not log.lost_first(judge, place, at):
        return False
    return _is_path(log, way, log.item_at(at), item)


def _is_below_paper(log, judge, place, item, grade, paper):
    """Return True if this is a paper of `greatest` with this grade."""
    if paper is None:
        return grade == log.grades
    at, way = paper
    if not log.is_answer(at) or log.grade_at(at) != grade or not log.lost_second(judge, place, at):
        return False
    return _is_path(log, way, item, log.item_at(at))
