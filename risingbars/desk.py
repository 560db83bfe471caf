"""The desk: a log that is changed step by step, with undo, redo, trials and kept answers."""

from risingbars.errors import NothingToRedo, NothingToUndo
from risingbars.explain import ring_of
from risingbars.grades import forecast
from risingbars.notation import format_log
from risingbars.pairs import sure_pairs
from risingbars.relation import is_explained
from risingbars.same import needless_answers


class Trial:
    """A block of changes of a desk, of which nothing remains if it is left by an error."""

    def __init__(self, desk):
        self._desk = desk
        self._states = desk.states
        self._at = desk.at

    def __enter__(self):
        self._states = self._desk.states
        self._at = self._desk.at
        return self._desk

    def __exit__(self, kind, value, trace):
        desk = self._desk
        if kind is not None:
            desk.states = self._states
            desk.at = self._at


class Desk:
    """A log that is changed, and what was asked about it."""

    def __init__(self, log):
        # The logs that can be undone and restored, and the number of the present one. A list of them never changes:
        # another one takes its place, so a trial can keep the old one.
        self.states = [log]
        self.at = 0
        self._kept = {}

    def put_event(self, event):
        """Put the event behind the others."""
        self._change(self.log_now().with_event(event))

    def put_event_at(self, place, event):
        """Put the event at the place."""
        self._change(self.log_now().with_event_at(place, event))

    def drop_event(self, place):
        """Take the event at the place out."""
        self._change(self.log_now().without_event(place))

    def put_item(self, name):
        """Put one more item behind the others."""
        self._change(self.log_now().with_item(name))

    def put_judge(self, name, drift):
        """Put one more judge behind the others."""
        self._change(self.log_now().with_judge(name, drift))

    def set_drift(self, judge, drift):
        """Give the judge this drift."""
        self._change(self.log_now().with_drift(judge, drift))

    def log_now(self):
        """Return the log."""
        return self.states[self.at]

    def answer(self, question):
        """Return what the present log says to the question: ring, pairs, forecast or needless."""
        # Just logs with the same parts have the same written form.
        key = (question, format_log(self.log_now()))
        if key not in self._kept:
            self._kept[key] = _find_answer(question, self.log_now())
        return _copied(self._kept[key])

    def undo(self):
        """Take back the last change that has not been taken back."""
        if self.at == 0:
            raise NothingToUndo("there is no change to be taken back")
        self.at -= 1

    def redo(self):
        """Restore the change that was taken back last."""
        if self.at + 1 == len(self.states):
            raise NothingToRedo("there is no change to be restored")
        self.at += 1

    def trial(self):
        """Return an object for a with statement, of whose changes none remains if it is left by an error."""
        return Trial(self)

    def change_all(self, deeds):
        """Make the changes of the list, or none of them if one raises."""
        with self.trial():
            for deed in deeds:
                self._do(deed)

    @property
    def found(self):
        """The number of answers that it has found."""
        return len(self._kept)

    def _change(self, log):
        self.states = self.states[:self.at + 1] + [log]
        self.at += 1

    def _do(self, deed):
        """Make the change that the tuple tells."""
        word = deed[0]
        if word == "event":
            self.put_event(deed[1])
        elif word == "event at":
            self.put_event_at(deed[1], deed[2])
        elif word == "no event":
            self.drop_event(deed[1])
        elif word == "item":
            self.put_item(deed[1])
        elif word == "judge":
            self.put_judge(deed[1], deed[2])
        elif word == "drift":
            self.set_drift(deed[1], deed[2])
        else:
            self.change_all(deed[1])


def _find_answer(question, log):
    """Return the answer to the question about the log."""
    if question == "ring":
        return ring_of(log)
    if question == "needless":
        return needless_answers(log)
    if not is_explained(log):
        return None
    return sure_pairs(log) if question == "pairs" else forecast(log)


def _copied(told):
    """Return a copy of an answer."""
    if isinstance(told, dict):
        return {judge: dict(row) for judge, row in told.items()}
    return None if told is None else list(told)
