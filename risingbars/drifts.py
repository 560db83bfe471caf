"""Which drifts are possible, and how often judges must have been set anew."""

from itertools import combinations

from risingbars.cases import Case
from risingbars.least import check_sizes, least_lists
from risingbars.relation import depths_by, links_by_pair
from risingbars.rings import places_across, rings_in_turn


def possible_drifts(log):
    """Return all tuples of rising and falling drifts of the judges that are possible."""
    rows = [((), [])]
    for judge, _ in log.judges:
        told = [(drift, _pairs_with(log, judge, drift)) for drift in ("rises", "falls")]
        # A ring of the links of some judges is there whatever the drifts of the others are.
        rows = [(row + (drift,), lists + [pairs]) for row, lists in rows for drift, pairs in told
                if _make_no_ring(log, lists + [pairs])]
    return [row for row, _ in rows]


def may_stay(log, judge):
    """Return True if the judge may stay, the others keeping their drifts."""
    return Case(log, drifts={judge: "stays"}).is_explained()


def staying_lots(log):
    """Return all lots of judges who may stay together and are part of no other such lot."""
    names = [judge for judge, _ in log.judges]
    moving = [_pairs_with(log, judge, drift) for judge, drift in log.judges]
    staying = [_pairs_with(log, judge, "stays") for judge in names]
    found = []
    for many in range(len(names), -1, -1):
        for lot in combinations(range(len(names)), many):
            lists = [staying[at] if at in lot else moving[at] for at in range(len(names))]
            if not _is_part_of_one(lot, found) and _make_no_ring(log, lists):
                found.append(lot)
    return [[names[at] for at in row] for row in sorted(found)]


def reset_places(log):
    """Return the places for resets."""
    return sorted([place for judge, _ in log.judges for stretch in log.stretches(judge) for place in stretch[1:]])


def does_part(log, places):
    """Return True if the list of places of answers parts the log."""
    return Case(log, resets=places).is_explained()


def rings_for_resets(log):
    """Return the rings for resets."""
    return rings_in_turn(lambda places: Case(log, resets=places), lambda ring: _places_in(log, ring))


def least_resets(log):
    """Return the least lists of places for resets that part the log."""
    places = reset_places(log)
    check_sizes(places, log.answers())
    return least_lists(places, lambda lot: does_part(log, lot))


def _pairs_with(log, judge, drift):
    """Return the pairs of items between which links of the judge lead if the judge has this drift."""
    return list(links_by_pair(log.only(log.answers_of(judge)).with_drift(judge, drift)))


def _make_no_ring(log, lists):
    """Return True if links between the pairs of items of all these lists make no ring."""
    pairs = {pair: True for told in lists for pair in told}
    return depths_by(log.item_names, pairs) is not None


def _is_part_of_one(lot, rows):
    """Return True if all of the lot is in one of the rows."""
    return any([all([number in row for number in lot]) for row in rows])


def _places_in(log, ring):
    """Return the places for resets at which the ring can be parted."""
    return [place for link in ring for place in places_across(log, link)]
