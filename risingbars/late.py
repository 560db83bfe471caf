"""Late answers: what follows from a log if it is known only about when some answers were given."""

from risingbars.errors import InvalidGrade, InvalidPlace, TooLarge
from risingbars.links import check_items, first_way, is_way, ways_to
from risingbars.logs import MOST_EVENTS, Log
from risingbars.relation import depths_by, is_explained, links_by_pair

MOST_CHOICES = 500


def choices_of(log, lates):
    """Return all choices for the late answers."""
    _check_lates(log, lates)
    choices = [()]
    for late in lates:
        choices = [choice + (place,) for choice in choices for place in range(late[3], late[4] + 1)]
    return choices


def log_with(log, lates, choice):
    """Return the log of the choice."""
    _check_lates(log, lates)
    return _log_of(log, lates, choice)


def possible_choices(log, lates):
    """Return the possible choices."""
    return [choice for choice in choices_of(log, lates) if is_explained(_log_of(log, lates, choice))]


def places_left(log, lates, number):
    """Return the places that the late answer with this number has in possible choices."""
    return sorted(set([choice[number] for choice in possible_choices(log, lates)]))


def sure_with(log, lates):
    """Return the pairs of items that are sure with the late answers, or None if no choice is possible."""
    names = log.item_names
    sure = None
    for choice in possible_choices(log, lates):
        below = ways_to(names, links_by_pair(_log_of(log, lates, choice)))
        if sure is None:
            sure = [(worse, better) for worse in names for better in names]
        sure = [(worse, better) for worse, better in sure if worse in below[better]]
    return sure


def late_paper(log, lates, worse, better):
    """Return a late paper for two different items, or None if there is none."""
    choices = choices_of(log, lates)
    check_items(log, [worse, better])
    paper = []
    for choice in choices:
        row = _way_or_ring(_log_of(log, lates, choice), worse, better)
        if row is None:
            return None
        paper.append(row)
    return paper


def check_late(log, lates, worse, better, paper):
    """Return True if the list of lists of tuples of two integers is a late paper for two different items."""
    choices = choices_of(log, lates)
    check_items(log, [worse, better])
    if len(paper) != len(choices):
        return False
    return all([_is_way_or_ring(_log_of(log, lates, choice), row, worse, better)
                for choice, row in zip(choices, paper)])


def _check_lates(log, lates):
    """Raise an error for the first late answer of which something is wrong, or TooLarge."""
    many = 1
    for late in lates:
        _check_late_answer(log, late)
        many = many * (late[4] - late[3] + 1)
    if len(log.events) + len(lates) > MOST_EVENTS:
        raise TooLarge("there are too many events with the late answers")
    if many > MOST_CHOICES:
        raise TooLarge("there are too many choices")


def _check_late_answer(log, late):
    judge, item, grade, first, last = late
    log.drift_of(judge)
    check_items(log, [item])
    if not 0 <= grade <= log.grades:
        raise InvalidGrade(grade)
    if not 0 <= first <= len(log.events):
        raise InvalidPlace(first)
    if not first <= last <= len(log.events):
        raise InvalidPlace(last)


def _log_of(log, lates, choice):
    """Return the log of the choice for late answers of which nothing is wrong."""
    events = []
    old = log.events
    for place in range(len(old) + 1):
        events.extend([("answer", late[0], late[1], late[2]) for late, at in zip(lates, choice) if at == place])
        events.extend(old[place:place + 1])
    return Log(log.item_names, log.grades, log.judges, events)


def _way_or_ring(log, worse, better):
    """Return a way from the one item to the other one, or else a ring, or None if there is neither."""
    firsts = links_by_pair(log)
    way = first_way(firsts, worse, better)
    if way is not None or depths_by(log.item_names, firsts) is not None:
        return way
    rings = [first_way(firsts, item, item) for item in log.item_names]
    return [ring for ring in rings if ring is not None][0]


def _is_way_or_ring(log, row, worse, better):
    """Return True if the list of tuples of two integers is a way from the one item to the other one, or a ring."""
    if len(row) == 0 or not log.is_answer(row[0][0]):
        return False
    start = log.item_at(row[0][0])
    return is_way(log, row, start, start) or is_way(log, row, worse, better)
