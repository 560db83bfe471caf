"""The written form of logs."""

from risingbars.errors import InvalidNotation
from risingbars.logs import MOST_EVENTS, MOST_ITEMS, MOST_JUDGES
from risingbars.logs import Log, is_drift, is_event, is_highest_grade, is_name, may_follow

DIGITS = "0123456789"


def format_log(log):
    """Return the written form of the log."""
    lines = [f"item {name}" for name in log.item_names]
    lines.append(f"grades {log.grades}")
    lines.extend([f"judge {name} {drift}" for name, drift in log.judges])
    lines.extend([format_event(event) for event in log.events])
    return "\n".join(lines)


def format_event(event):
    """Return the line of the event."""
    return " ".join([str(part) for part in event])


def parse_log(text):
    """Return the log that the text writes."""
    lines = text.split("\n")
    items = _read_items(lines)
    at = len(items)
    # A line that is missing has the number that a wrong line in its stead would have.
    if at == 0 or at == len(lines) or not _is_grades_line(lines[at]):
        raise InvalidNotation(at + 1)
    grades = int(lines[at].split(" ")[1])
    judges = _read_judges(lines[at + 1:])
    if len(judges) == 0:
        raise InvalidNotation(at + 2)
    at = at + 1 + len(judges)
    events = _read_events(lines[at:], items, grades, [name for name, drift in judges])
    if at + len(events) < len(lines):
        raise InvalidNotation(at + len(events) + 1)
    return Log(items, grades, judges, events)


def read_event(line):
    """Return the event that the line writes, or None if it has no form of an event."""
    words = line.split(" ")
    if words[0] == "reset" and len(words) == 2 and is_name(words[1]):
        return ("reset", words[1])
    if words[0] == "answer" and len(words) == 4:
        if is_name(words[1]) and is_name(words[2]) and _is_digit(words[3]):
            return ("answer", words[1], words[2], int(words[3]))
    return None


def _is_digit(word):
    return len(word) == 1 and word in DIGITS


def _is_grades_line(line):
    words = line.split(" ")
    return len(words) == 2 and words[0] == "grades" and _is_digit(words[1]) and is_highest_grade(int(words[1]))


def _read_items(lines):
    """Return the items of the first lines, up to the first line that cannot stand as one of an item."""
    items = []
    for line in lines:
        words = line.split(" ")
        if len(words) != 2 or words[0] != "item" or not may_follow(words[1], items, MOST_ITEMS):
            return items
        items.append(words[1])
    return items


def _read_judges(lines):
    """Return the judges of the first lines, up to the first line that cannot stand as one of a judge."""
    judges = []
    names = []
    for line in lines:
        words = line.split(" ")
        if len(words) != 3 or words[0] != "judge" or not is_drift(words[2]):
            return judges
        if not may_follow(words[1], names, MOST_JUDGES):
            return judges
        names.append(words[1])
        judges.append((words[1], words[2]))
    return judges


def _read_events(lines, items, grades, judge_names):
    """Return the events of the first lines, up to the first line that cannot stand as one of an event."""
    events = []
    for line in lines[:MOST_EVENTS]:
        event = read_event(line)
        if event is None or not is_event(event, items, grades, judge_names):
            return events
        events.append(event)
    return events
