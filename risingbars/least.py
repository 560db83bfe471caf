"""The least lists of places that are enough for something, where more places are always enough, too."""

from itertools import combinations

from risingbars.errors import TooLarge

MOST_PLACES = 10
MOST_ANSWERS = 40


def check_sizes(places, answers):
    """Raise TooLarge if there are more places, or more answers, than all lists of places are tried with."""
    if len(places) > MOST_PLACES or len(answers) > MOST_ANSWERS:
        raise TooLarge("there are too many places or answers")


def least_lists(places, is_enough):
    """Return the least lists of these ascending places for which the function returns True."""
    if not is_enough(places):
        return []
    found = []
    for many in range(len(places) + 1):
        for lot in combinations(places, many):
            if not _has_all_of_one(lot, found) and is_enough(list(lot)):
                found.append(list(lot))
    return found


def _has_all_of_one(lot, rows):
    """Return True if all places of one of the rows are in the lot."""
    return any([all([place in lot for place in row]) for row in rows])
