"""Closed lots of items, and how many orders they make. A lot is an integer with a bit for each of its items."""

from risingbars.errors import TooLarge

MOST_LOTS = 1000


def counts_by_steps(below):
    """Return the list of how many orders have so many steps, for each number from 0 to that of the items.

    `below` is the dict from each item to those that are surely worse. Raise TooLarge for too many closed lots.
    """
    names = list(below)
    worse = [sum([1 << names.index(name) for name in below[item]]) for item in names]
    counts = {}
    for lot in _closed_lots(worse):
        if lot == 0:
            counts[lot] = [1] + [0] * len(names)
        else:
            counts[lot] = _counts_of(lot, _peaks_of(lot, worse), counts)
    return counts[(1 << len(names)) - 1]


def _closed_lots(worse):
    """Return all closed lots, a lot behind those that are part of it; `worse` tells the worse ones of each item."""
    lots = [0]
    layer = [0]
    while len(layer) > 0:
        layer = _grown(layer, worse)
        lots.extend(layer)
        if len(lots) > MOST_LOTS:
            raise TooLarge("there are too many closed lots")
    return lots


def _grown(layer, worse):
    """Return the closed lots, each once, that have one item more than one of the layer."""
    found = {}
    for lot in layer:
        for at, others in enumerate(worse):
            if not _holds(lot, at) and (others & lot) == others:
                found[lot | (1 << at)] = True
    return list(found)


def _holds(lot, at):
    """Return True if the item with this number is in the lot."""
    return (lot >> at) & 1 == 1


def _peaks_of(lot, worse):
    """Return the lot of those items of the lot that are worse than none of it."""
    peaks = lot
    for at, others in enumerate(worse):
        if _holds(lot, at):
            peaks = peaks - (peaks & others)
    return peaks


def _counts_of(lot, peaks, counts):
    """Return the counts of the orders of the lot; the last step can be just each part of its peaks."""
    found = [0] * len(counts[0])
    last = peaks
    while last > 0:
        # An order that has all items already has no further step, so the last count of a smaller lot is 0.
        for steps, many in enumerate(counts[lot ^ last][:-1], start=1):
            found[steps] += many
        last = (last - 1) & peaks
    return found
