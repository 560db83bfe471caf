"""Logs: items, judges, and the answers and resets that happened to them."""

from risingbars.errors import InvalidDrift, InvalidGrade, InvalidLog, InvalidPlace
from risingbars.errors import NameInUse, NameTaken, TooLarge, UnknownItem, UnknownJudge

NAME_SIGNS = "abcdefghijklmnopqrstuvwxyz0123456789"
LONGEST_NAME = 12
MOST_ITEMS = 20
MOST_GRADES = 9
MOST_JUDGES = 8
MOST_EVENTS = 120
DRIFTS = ("rises", "falls", "stays")
TURNED_DRIFTS = {"rises": "falls", "falls": "rises", "stays": "stays"}


def is_name(text):
    """Return True if the string is a name."""
    return 1 <= len(text) <= LONGEST_NAME and all([sign in NAME_SIGNS for sign in text])


def is_drift(word):
    """Return True if the string is a drift."""
    return word in DRIFTS


def is_highest_grade(grade):
    """Return True if the integer can be the highest grade of a log."""
    return 1 <= grade <= MOST_GRADES


def may_follow(name, names, most):
    """Return True if this name can stand behind these where there are different names, at most so many."""
    return len(names) < most and is_name(name) and name not in names


def is_event(event, items, grades, judge_names):
    """Return True if the tuple is an event of a log with these items, highest grade and judges."""
    if len(event) == 2 and event[0] == "reset":
        return event[1] in judge_names
    if len(event) == 4 and event[0] == "answer":
        return event[1] in judge_names and event[2] in items and 0 <= event[3] <= grades
    return False


def are_in_order(drift, one, other):
    """Return True if answers of one stretch, at these places, are in order with this drift of their judge."""
    if drift == "rises":
        return one <= other
    if drift == "falls":
        return one >= other
    return True


def _check_names(names, most, what):
    if len(names) == 0:
        raise InvalidLog(f"there is no {what}")
    for at, name in enumerate(names):
        if not may_follow(name, names[:at], most):
            raise InvalidLog(f"a name of the {what}s is none, stands twice or is one too many")


def _check_judges(judges):
    for judge in judges:
        if len(judge) != 2 or not is_drift(judge[1]):
            raise InvalidLog("a judge is not a name and a drift")
    _check_names([judge[0] for judge in judges], MOST_JUDGES, "judge")


def _check_log(items, grades, judges, events):
    _check_names(items, MOST_ITEMS, "item")
    if not is_highest_grade(grades):
        raise InvalidLog("the highest grade is none from 1 to 9")
    _check_judges(judges)
    if len(events) > MOST_EVENTS:
        raise InvalidLog("there are too many events")
    judge_names = [judge[0] for judge in judges]
    for event in events:
        if not is_event(event, items, grades, judge_names):
            raise InvalidLog("an event is neither an answer nor a reset of this log")


def _resets_ahead(events):
    """Return the list of the numbers, for each event, of the resets of its judge ahead of it."""
    counts = {}
    ahead = []
    for event in events:
        judge = event[1]
        ahead.append(counts.get(judge, 0))
        if event[0] == "reset":
            counts[judge] = counts.get(judge, 0) + 1
    return ahead


class Log:
    """A log of grades. It does not change: its methods return other logs."""

    def __init__(self, items, grades, judges, events):
        _check_log(items, grades, judges, events)
        self._item_names = list(items)
        self._grades = grades
        self._judges = list(judges)
        self._events = list(events)
        self._drifts = {name: drift for name, drift in judges}
        # Answers of a judge are of one stretch if they have the same number here.
        self._resets = _resets_ahead(events)

    @property
    def item_names(self):
        """The items."""
        return list(self._item_names)

    @property
    def grades(self):
        """The highest grade."""
        return self._grades

    @property
    def judges(self):
        """The judges, tuples of their names and drifts."""
        return list(self._judges)

    @property
    def events(self):
        """The events."""
        return list(self._events)

    def drift_of(self, judge):
        """Return the drift of the judge."""
        self._need_judge(judge)
        return self._drifts[judge]

    def answers(self):
        """Return the places of all answers."""
        return [place for place, event in enumerate(self._events) if event[0] == "answer"]

    def answers_of(self, judge):
        """Return the places of the answers of the judge."""
        self._need_judge(judge)
        return [place for place in self.answers() if self._events[place][1] == judge]

    def is_answer(self, place):
        """Return True if an answer stands at the place."""
        return 0 <= place < len(self._events) and self._events[place][0] == "answer"

    def grade_at(self, place):
        """Return the grade of the answer at the place."""
        self._need_answer(place)
        return self._events[place][3]

    def item_at(self, place):
        """Return the item of the answer at the place."""
        self._need_answer(place)
        return self._events[place][2]

    def judge_at(self, place):
        """Return the judge of the answer at the place."""
        self._need_answer(place)
        return self._events[place][1]

    def stretch_of(self, place):
        """Return the stretch of the answer at the place."""
        self._need_answer(place)
        return self._stretch_behind(self._events[place][1], self._resets[place])

    def stretches(self, judge):
        """Return all stretches of the judge that have answers."""
        found = {}
        for place in self.answers_of(judge):
            found.setdefault(self._resets[place], []).append(place)
        return list(found.values())

    def in_order(self, one, other):
        """Return True if the answers at the two places are of one stretch and in order."""
        self._need_answer(one)
        self._need_answer(other)
        judge = self._events[one][1]
        if judge != self._events[other][1] or self._resets[one] != self._resets[other]:
            return False
        return are_in_order(self._drifts[judge], one, other)

    def stretch_at(self, judge, place):
        """Return the places of the answers that are of one stretch with a lost answer."""
        self._need_judge(judge)
        self._need_lost_place(place)
        return self._stretch_behind(judge, self._events[:place].count(("reset", judge)))

    def lost_first(self, judge, place, at):
        """Return True if a lost answer and the answer at `at` are in order, the lost one first."""
        stretch = self.stretch_at(judge, place)
        self._need_answer(at)
        # Doubled, since the lost answer stands between the events place - 1 and place.
        return at in stretch and are_in_order(self._drifts[judge], 2 * place - 1, 2 * at)

    def lost_second(self, judge, place, at):
        """Return True if the answer at `at` and a lost answer are in order, the lost one second."""
        stretch = self.stretch_at(judge, place)
        self._need_answer(at)
        # Doubled as in lost_first.
        return at in stretch and are_in_order(self._drifts[judge], 2 * at, 2 * place - 1)

    def with_event(self, event):
        """Return the log with this event behind the others."""
        return self.with_event_at(len(self._events), event)

    def with_event_at(self, place, event):
        """Return the log with this event at the place."""
        self._need_lost_place(place)
        self._need_judge(event[1])
        if event[0] == "answer":
            self._need_item(event[2])
            if not 0 <= event[3] <= self._grades:
                raise InvalidGrade(event[3])
        if len(self._events) == MOST_EVENTS:
            raise TooLarge("the log has as many events as it can have")
        return self._with_events(self._events[:place] + [event] + self._events[place:])

    def without_event(self, place):
        """Return the log without the event at the place."""
        if not 0 <= place < len(self._events):
            raise InvalidPlace(place)
        return self._with_events(self._events[:place] + self._events[place + 1:])

    def beginning(self, many):
        """Return the log with its first events, so many."""
        self._need_lost_place(many)
        return self._with_events(self._events[:many])

    def only(self, places):
        """Return the log with all resets and just the answers at these places."""
        for place in places:
            self._need_answer(place)
        kept = [event for place, event in enumerate(self._events) if event[0] == "reset" or place in places]
        return self._with_events(kept)

    def with_item(self, name):
        """Return the log with one more item."""
        if name in self._item_names:
            raise NameTaken(name)
        return Log(self._item_names + [name], self._grades, self._judges, self._events)

    def with_judge(self, name, drift):
        """Return the log with one more judge."""
        if name in self._drifts:
            raise NameTaken(name)
        if not is_drift(drift):
            raise InvalidDrift(f"{drift} is no drift")
        return self._with_judges(self._judges + [(name, drift)])

    def without_item(self, name):
        """Return the log without the item."""
        self._need_item(name)
        if name in [self._events[place][2] for place in self.answers()]:
            raise NameInUse(name)
        left = [item for item in self._item_names if item != name]
        return Log(left, self._grades, self._judges, self._events)

    def without_judge(self, name):
        """Return the log without the judge."""
        self._need_judge(name)
        if name in [event[1] for event in self._events]:
            raise NameInUse(name)
        return self._with_judges([judge for judge in self._judges if judge[0] != name])

    def with_drift(self, judge, drift):
        """Return the log in which the judge has this drift."""
        self._need_judge(judge)
        if not is_drift(drift):
            raise InvalidDrift(f"{drift} is no drift")
        return self._with_judges([(name, drift if name == judge else old) for name, old in self._judges])

    def backwards(self):
        """Return the log with its events in the opposite order, and rising and falling exchanged."""
        turned = [(name, TURNED_DRIFTS[drift]) for name, drift in self._judges]
        return Log(self._item_names, self._grades, turned, self._events[::-1])

    def same_as(self, other):
        """Return True if the other log has the same parts in the same order."""
        return (self.item_names == other.item_names and self.grades == other.grades
                and self.judges == other.judges and self.events == other.events)

    def _need_judge(self, judge):
        if judge not in self._drifts:
            raise UnknownJudge(judge)

    def _need_item(self, item):
        if item not in self._item_names:
            raise UnknownItem(item)

    def _need_answer(self, place):
        if not self.is_answer(place):
            raise InvalidPlace(place)

    def _need_lost_place(self, place):
        if not 0 <= place <= len(self._events):
            raise InvalidPlace(place)

    def _stretch_behind(self, judge, resets):
        """Return the stretch of the judge that begins behind so many resets."""
        return [place for place in self.answers_of(judge) if self._resets[place] == resets]

    def _with_events(self, events):
        return Log(self._item_names, self._grades, self._judges, events)

    def _with_judges(self, judges):
        return Log(self._item_names, self._grades, judges, self._events)
