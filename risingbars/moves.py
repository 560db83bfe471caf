"""How often, and when, standards must have moved."""

from risingbars.cases import Case
from risingbars.errors import InvalidDrift, NotYesAndNo, Unexplained
from risingbars.explain import ring_of
from risingbars.least import check_sizes, least_lists
from risingbars.links import links_of
from risingbars.rings import places_across, rings_in_turn


def move_places(log):
    """Return the places for moves."""
    found = []
    for judge, drift in log.judges:
        if drift != "stays":
            for stretch in log.stretches(judge):
                found.extend(stretch[1:])
    return sorted(found)


def are_enough(log, places):
    """Return True if the list of places is enough."""
    return Case(log, moves=places).is_explained()


def crossings(log, judge):
    """Return the crossings of the judge."""
    found = []
    for stretch in log.stretches(judge):
        last = {}
        for place in stretch:
            item = log.item_at(place)
            if item in last and log.grade_at(last[item]) != log.grade_at(place):
                found.append((last[item], place))
            last[item] = place
    return found


def crossings_apart(log, judge):
    """Return the crossings of the judge that are apart."""
    chosen = []
    for crossing in crossings(log, judge):
        if len(chosen) == 0 or crossing[0] >= chosen[-1][1]:
            chosen.append(crossing)
    return chosen


def fewest_moves(log, judge):
    """Return the tuple of the list of the moves of the judge and the list of the crossings apart."""
    if log.drift_of(judge) == "stays":
        raise InvalidDrift("the judge stays")
    if log.grades != 1:
        raise NotYesAndNo("the highest grade is not 1")
    for first, second in links_of(log):
        if log.judge_at(first) == judge and log.item_at(first) == log.item_at(second):
            raise Unexplained("a link of the judge leads from an item to itself")
    apart = crossings_apart(log, judge)
    return ([place for _, place in apart], apart)


def rings_for_moves(log):
    """Return the rings for moves. Raise Unexplained if the log contradicts itself."""
    if ring_of(log) is not None:
        raise Unexplained("the log contradicts itself")
    return rings_in_turn(lambda places: Case(log, moves=places), lambda ring: _held_places(log, ring))


def least_moves(log, *, judge=None):
    """Return the least lists of places for moves that are enough, of one judge alone if one is told."""
    own = log.answers() if judge is None else log.answers_of(judge)
    struck = [place for place in log.answers() if place not in own]
    places = [place for place in move_places(log) if place in own]
    check_sizes(places, own)
    return least_lists(places, lambda lot: Case(log, struck=struck, moves=lot).is_explained())


def _held_places(log, ring):
    """Return the places of answers at which the ring is held."""
    found = []
    for first, second in ring:
        if not log.in_order(first, second):
            found.extend(places_across(log, (first, second)))
    return found
