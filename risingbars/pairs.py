"""Orders: what explanations can say of which items are worse, alike and better."""

from risingbars.explain import explains
from risingbars.links import check_items
from risingbars.lots import counts_by_steps
from risingbars.relation import better_by, depths_by, links_by_pair, surely_worse


def order_of(log, qualities):
    """Return the order in which the qualities place the items."""
    steps = {}
    for item in log.item_names:
        steps.setdefault(qualities[item], []).append(item)
    return [steps[quality] for quality in sorted(steps)]


def explains_order(log, order):
    """Return True if the list of lists of strings is an order that explains the log."""
    items = [item for step in order for item in step]
    if sorted(items) != sorted(log.item_names):
        return False
    qualities = {item: number for number, step in enumerate(order) for item in step}
    # An empty step, and a step whose items are turned about, do not come back.
    return order_of(log, qualities) == order and explains(log, qualities)


def sure_pairs(log):
    """Return all tuples of two items of which the first one is surely worse."""
    below = surely_worse(log)
    return [(worse, better) for worse in below for better in below if worse in below[better]]


def open_pairs(log):
    """Return all tuples of two open items, the first one ahead of the second one in the log."""
    below = surely_worse(log)
    names = list(below)
    pairs = [(one, other) for at, one in enumerate(names) for other in names[at + 1:]]
    return [(one, other) for one, other in pairs if _are_open(below, one, other)]


def may_be(log, one, other):
    """Return those of the words worse, alike and better that the first item can be beside the second one."""
    check_items(log, [one, other])
    below = surely_worse(log)
    if _are_open(below, one, other):
        return ["worse", "alike", "better"]
    return ["worse"] if one in below[other] else ["better"]


def order_saying(log, one, other, word):
    """Return an order that explains the log and says the word of the first item, or None if there is none."""
    if word not in may_be(log, one, other):
        return None
    pairs = list(links_by_pair(log))
    if word == "worse":
        pairs.append((one, other))
    elif word == "better":
        pairs.append((other, one))
    else:
        # What is worse than one of the two is worse than both, and what is better is better than both.
        pairs = [(one if worse == other else worse, one if better == other else better) for worse, better in pairs]
    depths = depths_by(log.item_names, pairs)
    if word == "alike":
        depths[other] = depths[one]
    return order_of(log, depths)


def places_of(log, item):
    """Return the tuple of the least and the greatest place of the item in single orders."""
    check_items(log, [item])
    below = surely_worse(log)
    return _places_by(below, item)


def order_at(log, item, place):
    """Return a single order that explains the log, with the item at this place, or None if there is none."""
    check_items(log, [item])
    below = surely_worse(log)
    least, greatest = _places_by(below, item)
    if not least <= place <= greatest:
        return None
    row = _single_row(log)
    free = [name for name in row if name != item and name not in below[item] and item not in below[name]]
    chosen = below[item] + free[:place - least]
    early = [name for name in row if name in chosen]
    late = [name for name in row if name != item and name not in chosen]
    return [[name] for name in early + [item] + late]


def best_items(log):
    """Return the items that can stand in the last step of an order that explains the log."""
    above = better_by(surely_worse(log))
    return [item for item in above if len(above[item]) == 0]


def worst_items(log):
    """Return the items that can stand in the first step of an order that explains the log."""
    below = surely_worse(log)
    return [item for item in below if len(below[item]) == 0]


def order_count(log):
    """Return the number of all orders that explain the log."""
    return sum(counts_by_steps(surely_worse(log)))


def single_count(log):
    """Return the number of all single orders that explain the log."""
    return counts_by_steps(surely_worse(log))[-1]


def _are_open(below, one, other):
    """Return True if neither of two different items is surely worse than the other one."""
    return one not in below[other] and other not in below[one]


def _places_by(below, item):
    """Return the least and the greatest place of the item, by the dict of those that are surely worse."""
    return (len(below[item]), len(below) - 1 - len(better_by(below)[item]))


def _single_row(log):
    """Return all items, each behind those that are surely worse; the log does not contradict itself."""
    depths = depths_by(log.item_names, links_by_pair(log))
    return [item for step in order_of(log, depths) for item in step]
