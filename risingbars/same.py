"""Logs that say the same of the same items, and the answers that a log can do without."""

from risingbars.errors import UnlikeLogs
from risingbars.links import first_links, links_of, ways_to, worse_than
from risingbars.relation import depths_by, links_by_pair, makes_ring


def says_all(one, other):
    """Return True if the first log says all that the second one says."""
    return _unsaid_pair(one, other) is None


def say_same(one, other):
    """Return True if each of the two logs says all that the other one says."""
    return says_all(one, other) and says_all(other, one)


def parting_qualities(one, other):
    """Return qualities that explain the first log and not the second one, or None if there are none."""
    unsaid = _unsaid_pair(one, other)
    if unsaid is None:
        return None
    pairs = list(links_by_pair(one))
    worse, better = unsaid
    if worse != better:
        # No way leads from the worse one to the better one, so the opposite pair makes no ring.
        pairs.append((better, worse))
    return depths_by(one.item_names, pairs)


def outer_answers(log):
    """Return the places of the outer answers."""
    found = []
    for judge, _ in log.judges:
        for stretch in log.stretches(judge):
            for row in _like_answers(log, stretch):
                found.extend([row[0], row[-1]])
    return sorted(set(found))


def needless_answers(log):
    """Return the places of the needless answers."""
    links = links_of(log)
    said = _what_is_said(log, links)
    return [place for place in log.answers() if _what_is_said(log, _links_without(links, place)) == said]


def thinned(log):
    """Return the thinned log."""
    links = links_of(log)
    said = _what_is_said(log, links)
    kept = []
    for place in log.answers():
        fewer = _links_without(links, place)
        if _what_is_said(log, fewer) == said:
            links = fewer
        else:
            kept.append(place)
    return log.only(kept)


def _unsaid_pair(one, other):
    """Return a pair of items of a link of the second log, whose order the first one does not say, or None."""
    if sorted(one.item_names) != sorted(other.item_names):
        raise UnlikeLogs("the logs have not the same items")
    below = worse_than(one)
    if makes_ring(below):
        return None
    for worse, better in links_by_pair(other):
        if worse not in below[better]:
            return (worse, better)
    return None


def _like_answers(log, stretch):
    """Return, for each item and grade, the list of the answers of the stretch that give it this grade."""
    rows = {}
    for place in stretch:
        rows.setdefault((log.item_at(place), log.grade_at(place)), []).append(place)
    return list(rows.values())


def _links_without(links, place):
    """Return the links of the log without the answer at the place."""
    return [link for link in links if place not in link]


def _what_is_said(log, links):
    """Return what is the same for just those lots of links that say the same: None if there is a ring."""
    below = ways_to(log.item_names, first_links(log, links))
    return None if makes_ring(below) else below
