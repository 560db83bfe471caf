"""Sorting items into classes, and into the fewest rows."""

from math import comb

from risingbars.explain import depths_of
from risingbars.links import check_items
from risingbars.lots import counts_by_steps
from risingbars.pairs import order_of
from risingbars.relation import better_by, depths_by, links_by_pair, surely_worse


def class_count(log):
    """Return the fewest classes of a sorting."""
    return max(depths_of(log).values()) + 1


def longest_way(log):
    """Return a way with the most links, the empty list if there is no link."""
    depths = depths_of(log)
    firsts = links_by_pair(log)
    here = order_of(log, depths)[-1][0]
    way = []
    while depths[here] > 0:
        starts = [worse for worse, better in firsts if better == here and depths[worse] == depths[here] - 1]
        way.append(firsts[(starts[0], here)])
        here = starts[0]
    return way[::-1]


def sort_items(log, classes):
    """Return a dict from all items to tuples of their least and greatest class, or None if there is no sorting."""
    depths = depths_of(log)
    if max(depths.values()) >= classes:
        return None
    heights = depths_by(log.item_names, [(better, worse) for worse, better in links_by_pair(log)])
    return {item: (depths[item] + 1, classes - heights[item]) for item in depths}


def sorting_at(log, classes, item, number):
    """Return a sorting with the item in the class with this number, or None if there is none."""
    check_items(log, [item])
    told = sort_items(log, classes)
    if told is None or not told[item][0] <= number <= told[item][1]:
        return None
    pairs = links_by_pair(log)
    numbers = {}
    for step in order_of(log, depths_of(log)):
        for name in step:
            lower = [numbers[worse] for worse, better in pairs if better == name]
            numbers[name] = number if name == item else max(lower, default=0) + 1
    return numbers


def is_sorting(log, classes, told):
    """Return True if the dict from strings to integers is a sorting."""
    if sorted(told) != sorted(log.item_names):
        return False
    if not all([1 <= number <= classes for number in told.values()]):
        return False
    return all([told[worse] < told[better] for worse, better in links_by_pair(log)])


def sorting_count(log, classes):
    """Return the number of all sortings."""
    # A sorting is an order with a class for each of its steps.
    counts = counts_by_steps(surely_worse(log))
    return sum([many * comb(classes, steps) for steps, many in enumerate(counts)])


def widest(log):
    """Return the tuple of the most items that are apart and the fewest rows in which all items stand."""
    above = better_by(surely_worse(log))
    ahead = _fewest_rows(above)
    return (_items_apart(above, ahead), _rows_of(above, ahead))


def check_widest(log, items, rows):
    """Return True if the items are apart, and all items stand in the rows, of which there are as many."""
    below = surely_worse(log)
    if not all([item in below for item in items]) or len(set(items)) != len(items):
        return False
    if any([one in below[other] for one in items for other in items]):
        return False
    if len(rows) != len(items) or sorted([item for row in rows for item in row]) != sorted(below):
        return False
    return all([_is_row(below, row) for row in rows])


def _is_row(below, row):
    """Return True if there are items in the row, each but the last one surely worse than the next one."""
    return len(row) > 0 and all([row[at] in below[row[at + 1]] for at in range(len(row) - 1)])


def _fewest_rows(above):
    """Return a dict from items to those right ahead of them in the fewest rows; `above` tells the better ones."""
    ahead = {}
    for item in above:
        _put_ahead(above, item, ahead, {})
    return ahead


def _put_ahead(above, item, ahead, tried):
    """Put the item ahead of a better one, if need be by putting others elsewhere; return True if that is possible."""
    for better in above[item]:
        if better not in tried:
            tried[better] = True
            if better not in ahead or _put_ahead(above, ahead[better], ahead, tried):
                ahead[better] = item
                return True
    return False


def _rows_of(above, ahead):
    """Return the rows in which the items stand if these stand right ahead of those."""
    behind = {worse: better for better, worse in ahead.items()}
    rows = []
    for item in above:
        if item not in ahead:
            row = [item]
            while row[-1] in behind:
                row.append(behind[row[-1]])
            rows.append(row)
    return rows


def _items_apart(above, ahead):
    """Return as many items that are apart as the fewest rows are."""
    # What is reached from the last items of the rows, by going to a better item and to the one right ahead of it,
    # covers all pairs together with what is not reached (Koenig's theorem); the items that are left are apart.
    matched = list(ahead.values())
    reached = [item for item in above if item not in matched]
    taken = {}
    at = 0
    while at < len(reached):
        here = reached[at]
        for better in above[here]:
            if better not in taken:
                taken[better] = True
                reached.append(ahead[better])
        at += 1
    return [item for item in above if item in reached and item not in taken]
