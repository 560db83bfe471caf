"""Links between items, the ways that they make, and which of them say all."""

from risingbars.errors import Unexplained, UnknownItem
from risingbars.logs import are_in_order


def is_link(log, first, second):
    """Return True if the tuple of the two places is a link."""
    if not log.is_answer(first) or not log.is_answer(second):
        return False
    return log.in_order(first, second) and log.grade_at(first) < log.grade_at(second)


def links_of(log):
    """Return all links."""
    events = log.events
    found = []
    for judge, drift in log.judges:
        for stretch in log.stretches(judge):
            found.extend(_links_in(events, stretch, drift))
    return sorted(found)


def links_between(log, worse, better):
    """Return the links that lead from the one item to the other one."""
    check_items(log, [worse, better])
    events = log.events
    return [link for link in links_of(log) if _ends_of(events, link) == (worse, better)]


def way_between(log, worse, better):
    """Return the first way from the one item to the other one, or None if there is none."""
    check_items(log, [worse, better])
    return first_way(first_links(log, links_of(log)), worse, better)


def is_way(log, way, worse, better):
    """Return True if the list of tuples of two integers is a way from the one item to the other one."""
    check_items(log, [worse, better])
    here = worse
    for first, second in way:
        if not is_link(log, first, second) or log.item_at(first) != here:
            return False
        here = log.item_at(second)
    return len(way) > 0 and here == better


def worse_than(log):
    """Return a dict from each item to the list of the items from which ways lead to it."""
    return ways_to(log.item_names, first_links(log, links_of(log)))


def has_way(log, worse, better):
    """Return True if there is a way from the one item to the other one."""
    return way_between(log, worse, better) is not None


def covers_of(log):
    """Return the covers."""
    below = worse_than(log)
    if any([item in below[item] for item in below]):
        raise Unexplained("the log contradicts itself")
    return [(worse, better) for worse in below for better in below if _is_cover(below, worse, better)]


def least_links(log):
    """Return the first link of each cover."""
    covers = covers_of(log)
    firsts = first_links(log, links_of(log))
    return sorted([firsts[cover] for cover in covers])


def first_links(log, links):
    """Return a dict from pairs of items to the first of these ascending links from the one to the other."""
    events = log.events
    firsts = {}
    for link in links:
        firsts.setdefault(_ends_of(events, link), link)
    return firsts


def first_way(firsts, worse, better):
    """Return the first way of links between the items, or None; of two items the first link alone matters."""
    left = _links_left(firsts, better)
    step = _first_step(firsts, left, worse)
    if step is None:
        return None
    way = [step[1]]
    while step[0] > 0:
        step = _first_step(firsts, left, step[2])
        way.append(step[1])
    return way


def ways_to(names, firsts):
    """Return a dict from each of the items to those, in order, from which ways of the links lead to it."""
    found = {}
    for item in names:
        left = _links_left(firsts, item)
        starts = {worse: True for worse, better in firsts if better in left}
        found[item] = [name for name in names if name in starts]
    return found


def check_items(log, items):
    """Raise UnknownItem for the first of these items that is none of the log."""
    names = log.item_names
    for item in items:
        if item not in names:
            raise UnknownItem(item)


def _links_in(events, stretch, drift):
    """Return the links between answers of one stretch."""
    return [(first, second) for first in stretch for second in stretch
            if events[first][3] < events[second][3] and are_in_order(drift, first, second)]


def _ends_of(events, link):
    """Return the items from which and to which the link leads."""
    return (events[link[0]][2], events[link[1]][2])


def _links_left(firsts, better):
    """Return a dict from items to the fewest links of a way from them to this one; it itself has 0."""
    left = {better: 0}
    many = 0
    layer = [better]
    while len(layer) > 0:
        many += 1
        layer = _new_starts(firsts, layer, left)
        for item in layer:
            left[item] = many
    return left


def _new_starts(firsts, layer, left):
    """Return the items, each once, from which links lead into the layer, and which have no number left yet."""
    starts = {worse: True for worse, better in firsts if better in layer and worse not in left}
    return list(starts)


def _first_step(firsts, left, item):
    """Return the first step of the first way on: the links left behind it, its link, the item to which it leads."""
    steps = [(left[better], firsts[(worse, better)], better)
             for worse, better in firsts if worse == item and better in left]
    return min(steps, default=None)


def _is_cover(below, worse, better):
    """Return True if the one is below the other, and no item stands between them, in a log without a ring."""
    return worse in below[better] and not any([worse in below[third] for third in below[better]])
