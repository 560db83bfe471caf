"""What links between items come to: depths, rings, and which items are surely worse."""

from risingbars.errors import Unexplained
from risingbars.links import first_way, worse_than


def links_by_pair(log):
    """Return a dict from the pairs of items between which links lead to one link each, not always the first."""
    events = log.events
    found = {}
    for judge, drift in log.judges:
        for stretch in log.stretches(judge):
            if drift != "falls":
                _take_links(events, stretch, found)
            if drift != "rises":
                _take_links(events, stretch[::-1], found)
    return found


def depths_by(names, pairs):
    """Return the dict of the greatest numbers of links of ways to the items, or None if there is a ring."""
    depths = {name: 0 for name in names}
    # Without a ring no way has as many links as there are items, so the last round changes nothing.
    for _ in names:
        changed = False
        for worse, better in pairs:
            if depths[better] <= depths[worse]:
                depths[better] = depths[worse] + 1
                changed = True
        if not changed:
            return depths
    return None


def is_explained(log):
    """Return True if the log does not contradict itself."""
    return depths_by(log.item_names, links_by_pair(log)) is not None


def first_ring(names, firsts):
    """Return the first ring of links, or None; `firsts` tells the first link of each pair of items."""
    ways = [first_way(firsts, name, name) for name in names]
    told = min([(len(way), way) for way in ways if way is not None], default=None)
    return None if told is None else told[1]


def makes_ring(below):
    """Return True if an item is below itself in this dict from items to those from which ways lead to them."""
    return any([item in below[item] for item in below])


def surely_worse(log):
    """Return the dict from each item to the list of those that are surely worse. Raise Unexplained."""
    below = worse_than(log)
    if makes_ring(below):
        raise Unexplained("the log contradicts itself")
    return below


def better_by(below):
    """Return the dict from each item to the list of those that are better, of the dict of the worse ones."""
    return {item: [better for better in below if item in below[better]] for item in below}


def _take_links(events, row, found):
    """Add a link for each pair of items between which one leads from an answer of the row to a later one there."""
    lowest = {}
    for place in row:
        item = events[place][2]
        grade = events[place][3]
        for worse, at in lowest.items():
            if events[at][3] < grade:
                found.setdefault((worse, item), (at, place))
        if item not in lowest or grade < events[lowest[item]][3]:
            lowest[item] = place
