"""Worlds: items with qualities that nobody sees, and judges with the bars that make their grades."""

from risingbars.errors import InvalidBars, InvalidDrift
from risingbars.explain import bars_at_most
from risingbars.links import check_items
from risingbars.logs import Log


class World:
    """A world, whose judges answer, move their bars and are set anew; it keeps the log of all this."""

    def __init__(self, grades, qualities, judges):
        self._log = Log(sorted(qualities), grades, [(name, drift) for name, drift, _ in judges], [])
        for _, _, bars in judges:
            _check_bars(grades, bars)
        self._qualities = dict(qualities)
        self._bars = {name: list(bars) for name, _, bars in judges}
        # The bars that the judges had at their answers.
        self._past = {}

    def quality_of(self, item):
        """Return the quality of the item."""
        check_items(self._log, [item])
        return self._qualities[item]

    def bars_of(self, judge):
        """Return the present bars of the judge."""
        self._log.drift_of(judge)
        return list(self._bars[judge])

    def move(self, judge, bars):
        """Move the bars of the judge."""
        drift = self._log.drift_of(judge)
        _check_bars(self._log.grades, bars)
        if drift != "falls" and not bars_at_most(self._bars[judge], bars):
            raise InvalidDrift("a bar of a judge who does not fall becomes less")
        if drift != "rises" and not bars_at_most(bars, self._bars[judge]):
            raise InvalidDrift("a bar of a judge who does not rise becomes greater")
        self._bars[judge] = list(bars)

    def set_anew(self, judge, bars):
        """Set the judge anew, with these bars."""
        self._log.drift_of(judge)
        _check_bars(self._log.grades, bars)
        self._log = self._log.with_event(("reset", judge))
        self._bars[judge] = list(bars)

    def would_say(self, judge, item):
        """Return the grade that the judge would give the item."""
        bars = self.bars_of(judge)
        quality = self.quality_of(item)
        return len([bar for bar in bars if bar <= quality])

    def answer(self, judge, item):
        """Let the judge grade the item, and return the grade."""
        grade = self.would_say(judge, item)
        self._log = self._log.with_event(("answer", judge, item, grade))
        self._past[len(self._log.events) - 1] = self.bars_of(judge)
        return grade

    def log(self):
        """Return the log of all answers and resets so far."""
        return self._log

    def bars_at(self):
        """Return the dict from the places of all answers to the bars that the judges had then."""
        return {place: list(bars) for place, bars in self._past.items()}


def _check_bars(grades, bars):
    """Raise InvalidBars if these are no bars of a judge with so many grades above 0."""
    if len(bars) != grades or sorted(bars) != bars:
        raise InvalidBars("there are too many bars or too few, or they fall")
