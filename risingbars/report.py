"""Tables of what is sure and of what can come."""

from risingbars.explain import ring_of
from risingbars.grades import forecast
from risingbars.pairs import sure_pairs


def pair_table(log):
    """Return the table of which items are surely worse and better than which, or the line of the ring."""
    ring = ring_of(log)
    if ring is not None:
        return f"ring: {ring_line(ring)}"
    pairs = sure_pairs(log)
    names = log.item_names
    rows = ["".join([_sign_of(pairs, name, other) for other in names]) for name in names]
    return _table(names, rows)


def forecast_table(log):
    """Return the table of the grades that the judges can give as the last answer, or the line of the ring."""
    ring = ring_of(log)
    if ring is not None:
        return f"ring: {ring_line(ring)}"
    told = forecast(log)
    rows = [" ".join([f"{least}-{greatest}" for least, greatest in row.values()]) for row in told.values()]
    return _table(list(told), rows)


def ring_line(ring):
    """Return the written ring."""
    return " ".join([f"{first}-{second}" for first, second in ring])


def _sign_of(pairs, name, other):
    """Return the sign for the other item in the line of the item with this name."""
    if name == other:
        return "="
    if (name, other) in pairs:
        return "<"
    return ">" if (other, name) in pairs else "."


def _table(names, rows):
    """Return a line for each of the names, padded to the longest one, with its row."""
    width = max([len(name) for name in names])
    return "\n".join([f"{name.ljust(width)} {row}" for name, row in zip(names, rows)])
