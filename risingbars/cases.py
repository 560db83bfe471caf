"""Cases: what becomes of a log if drifts, answers, resets or the times of moves are thought otherwise."""

from risingbars.errors import InvalidDrift, InvalidPlace, UnknownJudge
from risingbars.explain import bars_at_most, bars_fit
from risingbars.links import check_items, first_links, first_way
from risingbars.logs import are_in_order, is_drift
from risingbars.relation import depths_by, first_ring


class Case:
    """A log with other drifts, struck answers, new resets and places for moves. It does not change."""

    def __init__(self, log, *, drifts=None, struck=None, resets=None, moves=None):
        _check_drifts(log, {} if drifts is None else drifts)
        for places in (struck, resets, moves):
            check_answers(log, [] if places is None else places)
        self._log = log
        self._events = log.events
        self._drifts = {judge: drift for judge, drift in log.judges}
        self._drifts.update({} if drifts is None else drifts)
        self._left = [place for place in log.answers() if struck is None or place not in struck]
        anew = [place for place, event in enumerate(self._events) if event[0] == "reset"]
        # Answers of a judge are of one stretch if they have the same number here, and those of one stretch
        # stand together if they have the same number of moves.
        self._resets = _numbers_up_to(self._events, anew + ([] if resets is None else list(resets)))
        self._moves = list(range(len(self._events))) if moves is None else _numbers_up_to(self._events, moves)

    def answers(self):
        """Return the places of its answers."""
        return list(self._left)

    def stretch_of(self, place):
        """Return the places of its answers of one stretch with the answer at the place."""
        self._need_answer(place)
        return [other for other in self._left if self._are_of_one_stretch(place, other)]

    def in_order(self, one, other):
        """Return True if its two answers are of one stretch and in order."""
        self._need_answer(one)
        self._need_answer(other)
        return self._are_of_one_stretch(one, other) and self._follow(one, other)

    def stand_together(self, one, other):
        """Return True if its two answers stand together."""
        self._need_answer(one)
        self._need_answer(other)
        return self._are_of_one_stretch(one, other) and self._moves[one] == self._moves[other]

    def links(self):
        """Return all its links."""
        return [(first, second) for first in self._left for second in self._left
                if self._events[first][3] < self._events[second][3] and self._binds(first, second)]

    def ring(self):
        """Return its first ring of all items, or None."""
        return first_ring(self._log.item_names, first_links(self._log, self.links()))

    def way_between(self, worse, better):
        """Return the first way from the one item to the other one, or None if there is none."""
        check_items(self._log, [worse, better])
        return first_way(first_links(self._log, self.links()), worse, better)

    def is_explained(self):
        """Return True if something explains the case."""
        return self._depths() is not None

    def explanation(self):
        """Return the tuple of the depths and of the least bars with them, or None if the case has a ring."""
        depths = self._depths()
        if depths is None:
            return None
        return (depths, {place: self._bars_above(depths, place) for place in self._left})

    def explains(self, qualities, bars):
        """Return True if the two dicts explain the case, and tell of just its items, answers and grades."""
        if sorted(qualities) != sorted(self._log.item_names) or sorted(bars) != self._left:
            return False
        for place in self._left:
            event = self._events[place]
            if not bars_fit(bars[place], self._log.grades, qualities[event[2]], event[3]):
                return False
        return all([bars_at_most(bars[one], bars[other])
                    for one in self._left for other in self._left if self._binds(one, other)])

    def _need_answer(self, place):
        if place not in self._left:
            raise InvalidPlace(place)

    def _are_of_one_stretch(self, one, other):
        return self._events[one][1] == self._events[other][1] and self._resets[one] == self._resets[other]

    def _follow(self, one, other):
        """Return True if answers of one stretch, at these places, are in order."""
        return are_in_order(self._drifts[self._events[one][1]], one, other)

    def _binds(self, one, other):
        """Return True if each bar of the one answer is at most that of the other one, whatever explains the case."""
        return self._are_of_one_stretch(one, other) and (
            self._moves[one] == self._moves[other] or self._follow(one, other))

    def _depths(self):
        """Return the depths, or None if the case has a ring."""
        return depths_by(self._log.item_names, first_links(self._log, self.links()))

    def _bars_above(self, depths, place):
        """Return, for each grade from 1 on, the bar of the answer that is 1 more than what it has to be above, or 0."""
        bound = [other for other in self._left if self._binds(other, place)]
        bars = []
        for grade in range(1, self._log.grades + 1):
            lows = [depths[self._events[other][2]] for other in bound if self._events[other][3] < grade]
            bars.append(max(lows, default=-1) + 1)
        return bars


def _check_drifts(log, drifts):
    judges = [judge for judge, _ in log.judges]
    for judge in sorted(drifts):
        if judge not in judges:
            raise UnknownJudge(judge)
    for drift in drifts.values():
        if not is_drift(drift):
            raise InvalidDrift(f"{drift} is no drift")


def check_answers(log, places):
    """Raise InvalidPlace for the first of these places that is none of an answer."""
    for place in places:
        if not log.is_answer(place):
            raise InvalidPlace(place)


def _numbers_up_to(events, places):
    """Return, for each event, how many of the events at these places, it itself too, are of its judge up to it."""
    counts = {}
    found = []
    for place, event in enumerate(events):
        if place in places:
            counts[event[1]] = counts.get(event[1], 0) + 1
        found.append(counts.get(event[1], 0))
    return found
