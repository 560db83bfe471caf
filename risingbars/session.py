"""Sessions: lines that change a log and ask about it, and their replies."""

from risingbars.desk import Desk
from risingbars.errors import InvalidDrift, InvalidGrade, InvalidLog, InvalidPlace, NameTaken
from risingbars.errors import NothingToRedo, NothingToUndo, TooLarge, UnknownItem, UnknownJudge
from risingbars.links import check_items
from risingbars.notation import format_log, read_event
from risingbars.report import ring_line

MOST_DIGITS = 3


class Session:
    """A desk that obeys lines."""

    def __init__(self, log):
        self._desk = Desk(log)

    def obey(self, line):
        """Return the reply to the line."""
        try:
            return self._reply(line)
        except UnknownJudge as unknown_judge:
            return f"error judge {unknown_judge.name}"
        except UnknownItem as unknown_item:
            return f"error item {unknown_item.name}"
        except InvalidGrade as wrong_grade:
            return f"error grade {wrong_grade.grade}"
        except InvalidPlace as wrong_place:
            return f"error place {wrong_place.place}"
        except NameTaken as taken_name:
            return f"error taken {taken_name.name}"
        except InvalidDrift:
            return "error drift"
        except InvalidLog:
            return "error log"
        except TooLarge:
            return "error large"
        except NothingToUndo:
            return "error undo"
        except NothingToRedo:
            return "error redo"

    def play(self, text):
        """Return the replies to the lines of the text."""
        return [self.obey(line) for line in text.split("\n")]

    def _reply(self, line):
        """Return the reply to the line if no error comes."""
        event = read_event(line)
        if event is not None:
            self._desk.put_event(event)
            return "ok"
        words = line.split(" ")
        if "" in words:
            return "error command"
        return "ok" if self._change(words) else self._tell(words)

    def _change(self, words):
        """Make the change that the words tell, and return True, or False if they tell none."""
        match words:
            case ["drop", place]:
                if not _is_place(place):
                    return False
                self._desk.drop_event(int(place))
            case ["item", name]:
                self._desk.put_item(name)
            case ["judge", name, drift]:
                self._desk.put_judge(name, drift)
            case ["drift", name, drift]:
                self._desk.set_drift(name, drift)
            case ["undo"]:
                self._desk.undo()
            case ["redo"]:
                self._desk.redo()
            case _:
                return False
        return True

    def _tell(self, words):
        """Return the reply to the words of a line that changes nothing."""
        match words:
            case ["ring"]:
                ring = self._desk.answer("ring")
                return "none" if ring is None else ring_line(ring)
            case ["worse", worse, better]:
                return self._tell_worse(worse, better)
            case ["can", judge, item]:
                return self._tell_grades(judge, item)
            case ["pairs"]:
                return self._tell_pairs()
            case ["log"]:
                return format_log(self._desk.log_now())
            case _:
                return "error command"

    def _tell_worse(self, worse, better):
        check_items(self._desk.log_now(), [worse, better])
        pairs = self._desk.answer("pairs")
        if pairs is None:
            return "contradiction"
        return "yes" if (worse, better) in pairs else "no"

    def _tell_grades(self, judge, item):
        self._desk.log_now().drift_of(judge)
        check_items(self._desk.log_now(), [item])
        told = self._desk.answer("forecast")
        if told is None:
            return "contradiction"
        least, greatest = told[judge][item]
        return f"{least}-{greatest}"

    def _tell_pairs(self):
        pairs = self._desk.answer("pairs")
        if pairs is None:
            return "contradiction"
        return "none" if len(pairs) == 0 else " ".join([f"{worse}<{better}" for worse, better in pairs])


def _is_place(word):
    """Return True if the word has 1 to 3 digits and no leading zero."""
    return len(word) <= MOST_DIGITS and word.isdigit() and (word == "0" or word[0] != "0")
