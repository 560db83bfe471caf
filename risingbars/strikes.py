"""How many answers must be wrong."""

from risingbars.cases import Case, check_answers
from risingbars.errors import InvalidDrift, NotYesAndNo
from risingbars.least import check_sizes, least_lists
from risingbars.rings import rings_in_turn


def fewest_strikes(log, judge):
    """Return the tuple of the list of the strikes of the judge and the list of the pairs."""
    drift = log.drift_of(judge)
    if drift == "stays":
        raise InvalidDrift("the judge stays")
    if log.grades != 1:
        raise NotYesAndNo("the highest grade is not 1")
    early_grade = 1 if drift == "rises" else 0
    strikes = []
    pairs = []
    for stretch in log.stretches(judge):
        for item in log.item_names:
            row = [place for place in stretch if log.item_at(place) == item]
            is_early = [log.grade_at(place) == early_grade for place in row]
            strikes.extend(_strikes_in(row, is_early))
            pairs.extend(_pairs_in(row, is_early))
    return (strikes, pairs)


def rings_apart(log):
    """Return the rings apart."""
    return rings_in_turn(lambda places: Case(log, struck=places), _places_of)


def does_free(log, places):
    """Return True if the list of places of answers frees the log."""
    return Case(log, struck=places).is_explained()


def least_strikes(log, *, places=None):
    """Return the least lists of answers that free the log, of those at the places, or of all if none are told."""
    told = log.answers() if places is None else list(places)
    check_answers(log, told)
    different = sorted(set(told))
    check_sizes(different, log.answers())
    return least_lists(different, lambda lot: does_free(log, lot))


def _strikes_in(row, is_early):
    """Return the strikes in the answers of one item, where early grades can stand ahead of the others alone."""
    # Each number tries another answer from which on no grade is early; min takes the first of several.
    tries = [[place for at, place in enumerate(row) if is_early[at] == (at >= many)] for many in range(len(row) + 1)]
    return min(tries, key=len)


def _pairs_in(row, is_early):
    """Return the pairs in the answers of one item: each early grade with the first one ahead that is not early."""
    free = []
    pairs = []
    for place, early in zip(row, is_early):
        if not early:
            free.append(place)
        elif len(free) > 0:
            pairs.append((free.pop(0), place))
    return pairs


def _places_of(ring):
    """Return the places of the answers of the ring, each once."""
    return sorted(set([place for link in ring for place in link]))
