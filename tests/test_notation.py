"""Points 11 and 12: the written form, and reading it."""

import re
import unittest
from random import Random

from helpers import parts_of, plain_log, random_logs
from risingbars.errors import InvalidNotation
from risingbars.logs import Log
from risingbars.notation import format_event, format_log, parse_log, read_event

WRITTEN = """item x
item y
grades 2
judge ann rises
judge bob falls
answer ann x 0
reset bob
answer bob y 2"""

FORMS = [r"item ([a-z0-9]{1,12})", r"grades ([0-9])", r"judge ([a-z0-9]{1,12}) (rises|falls|stays)",
         r"answer ([a-z0-9]{1,12}) ([a-z0-9]{1,12}) ([0-9])|reset ([a-z0-9]{1,12})"]


def can_stand(line, seen):
    """Point 12 for a line behind others: `seen` has a list of tuples for each of the four sorts of lines."""
    for sort, form in enumerate(FORMS):
        match = re.fullmatch(form, line)
        if match is None:
            continue
        words = match.groups()
        items, grades, judges, events = seen
        names = [judge[0] for judge in judges]
        if any(seen[sort + 1:]) or (sort > 0 and not seen[sort - 1]):
            return False
        if sort == 0:
            fits = words not in items and len(items) < 20
        elif sort == 1:
            fits = not grades and words != ("0",)
        elif sort == 2:
            fits = words[0] not in names and len(names) < 8
        else:
            fits = len(events) < 120 and (words[3] in names if words[0] is None else (
                words[0] in names and (words[1],) in items and words[2] <= grades[0][0]))
        if fits:
            seen[sort].append(words)
        return fits
    return False


def wrong_line(text):
    """The number that InvalidNotation has for the text, or None if the text can be parsed."""
    seen = [[], [], [], []]
    lines = text.split("\n")
    for number, line in enumerate(lines, start=1):
        if not can_stand(line, seen):
            return number
    return None if seen[2] else len(lines) + 1


class Notation(unittest.TestCase):
    def assert_wrong(self, text, line):
        with self.subTest(text=text):
            with self.assertRaises(InvalidNotation) as caught:
                parse_log(text)
            self.assertEqual(caught.exception.line, line)

    def assert_wrong_lines(self, lines, line):
        self.assert_wrong("\n".join(lines), line)


class WrittenForms(Notation):
    def test_format_log(self):
        events = [("answer", "ann", "x", 0), ("reset", "bob"), ("answer", "bob", "y", 2)]
        log = Log(["x", "y"], 2, [("ann", "rises"), ("bob", "falls")], events)
        self.assertEqual(format_log(log), WRITTEN)
        self.assertTrue(parse_log(WRITTEN).same_as(log))

    def test_the_shortest_log(self):
        log = Log(["x"], 9, [("j", "stays")], [])
        self.assertEqual(format_log(log), "item x\ngrades 9\njudge j stays")
        self.assertTrue(parse_log(format_log(log)).same_as(log))

    def test_the_longest_log(self):
        names = [f"{letter}abcdefghijk" for letter in "abcdefghijklmnopqrst"]
        events = [("answer", names[k % 8], names[k % 20], k % 10) for k in range(120)]
        log = Log(names, 9, [(name, "falls") for name in names[:8]], events)
        self.assertTrue(parse_log(format_log(log)).same_as(log))

    def test_back_and_forth(self):
        for log in random_logs(4, 60):
            before = parts_of(log)
            text = format_log(log)
            self.assertEqual(parts_of(parse_log(text)), before)
            self.assertEqual(format_log(parse_log(text)), text)
            self.assertEqual(parts_of(log), before)
            for event in log.events:
                self.assertEqual(read_event(format_event(event)), event)

    def test_format_event(self):
        self.assertEqual(format_event(("answer", "ann", "x", 9)), "answer ann x 9")
        self.assertEqual(format_event(("reset", "0j")), "reset 0j")


class WrongLines(Notation):
    def test_texts_that_end_early(self):
        self.assert_wrong("", 1)
        self.assert_wrong("item x", 2)
        self.assert_wrong("item x\nitem y", 3)
        self.assert_wrong("item x\ngrades 1", 3)
        self.assert_wrong("\n".join(f"item i{k}" for k in range(20)), 21)

    def test_newlines(self):
        self.assert_wrong("\n", 1)
        self.assert_wrong("item x\n", 2)
        self.assert_wrong("item x\ngrades 1\n", 3)
        self.assert_wrong("item x\ngrades 1\njudge j rises\n", 4)
        self.assert_wrong(WRITTEN + "\n", 9)
        self.assert_wrong("\n" + WRITTEN, 1)
        self.assert_wrong(WRITTEN.replace("\ngrades", "\n\ngrades"), 3)

    def test_each_line_left_out(self):
        lines = WRITTEN.split("\n")
        wrong = [7, None, 3, 4, 7, None, None, None]
        # Without the item x the sixth line names none; without y the seventh; without ann the fifth.
        wrong[0], wrong[1], wrong[3], wrong[4] = 5, 7, 5, 6
        for at, line in enumerate(wrong):
            text = "\n".join(lines[:at] + lines[at + 1:])
            if line is None:
                self.assertEqual(format_log(parse_log(text)), text)
            else:
                self.assert_wrong(text, line)

    def test_each_line_twice(self):
        lines = WRITTEN.split("\n")
        for at in range(5):
            self.assert_wrong_lines(lines[:at + 1] + lines[at:], at + 2)
        for at in (5, 6, 7):
            self.assertEqual(len(parse_log("\n".join(lines[:at + 1] + lines[at:])).events), 4)

    def test_sorts_of_lines(self):
        lines = WRITTEN.split("\n")
        others = {"item z": [0, 1, 2], "grades 2": [], "judge cid stays": [3, 4, 5],
                  "answer ann x 1": [5, 6, 7, 8], "reset ann": [5, 6, 7, 8]}
        # Here the line itself can stand, but a line behind it cannot.
        behind = {("grades 2", 1): 3, ("grades 2", 2): 4, ("answer ann x 1", 4): 6, ("reset ann", 4): 6}
        for other, places in others.items():
            for at in range(9):
                text = "\n".join(lines[:at] + [other] + lines[at:])
                if at in places:
                    self.assertEqual(format_log(parse_log(text)), text)
                else:
                    self.assert_wrong(text, behind.get((other, at), at + 1))

    def test_missing_ahead(self):
        self.assert_wrong("grades 1\nitem x\njudge j rises", 1)
        self.assert_wrong("judge j rises", 1)
        self.assert_wrong("answer j x 0", 1)
        self.assert_wrong("item x\njudge j rises", 2)
        self.assert_wrong("item x\nanswer j x 0", 2)
        self.assert_wrong("item x\ngrades 1\nreset j", 3)

    def test_items(self):
        for line in ("item", "item ", "item  x", "item x ", " item x", "item X", "Item x", "item x y", "items x",
                     "item abcdefghijklm", "item a_b", "item", "x", "item\tx"):
            self.assert_wrong_lines([line, "grades 1", "judge j rises"], 1)
            self.assert_wrong_lines(["item w", line, "grades 1", "judge j rises"], 2)
        self.assert_wrong_lines(["item x", "item y", "item x", "grades 1", "judge j rises"], 3)
        many = [f"item i{number}" for number in range(21)]
        self.assert_wrong_lines(many + ["grades 1", "judge j rises"], 21)

    def test_grades(self):
        for word in ("0", "10", "01", "-1", "+1", "1 ", " 1", "", "x", "1.0", "1_0", "0x1", "\u0661", "\u00b2"):
            self.assert_wrong_lines(["item x", f"grades {word}", "judge j rises"], 2)
        for line in ("grades", "grade 1", "Grades 1", "grades 1 1", " grades 1"):
            self.assert_wrong_lines(["item x", line, "judge j rises"], 2)

    def test_judges(self):
        for line in ("judge", "judge j", "judge j rise", "judge j Rises", "judge J rises", "judge j rises rises",
                     "judge  j rises", "judge j  rises", "judge j rises ", "judge rises", "judge  rises",
                     "judge abcdefghijklm rises", "judges j rises"):
            self.assert_wrong_lines(["item x", "grades 1", line], 3)
            self.assert_wrong_lines(["item x", "grades 1", "judge k falls", line], 4)
        self.assert_wrong_lines(["item x", "grades 1", "judge j rises", "judge j falls"], 4)
        many = [f"judge j{number} stays" for number in range(9)]
        self.assert_wrong_lines(["item x", "grades 1"] + many, 11)

    def test_events(self):
        start = ["item x", "grades 3", "judge j rises"]
        for line in ("answer j x 4", "answer j x 9", "answer j x 10", "answer j x 00", "answer j x -1",
                     "answer j x +1", "answer j x", "answer j x 1 ", "answer  j x 1", "answer j y 1", "answer x x 1",
                     "answer j x 1 1", "Answer j x 1", "answer j x x", "answer j j 1", "answer j x \u0661", "answer",
                     "reset", "reset x", "reset j ", "reset  j", "reset j j", "Reset j", "resets j", " ", "", "j"):
            self.assert_wrong_lines(start + [line], 4)
            self.assert_wrong_lines(start + ["reset j", line, "reset j"], 5)
        many = ["reset j", "answer j x 3"] * 60
        self.assertEqual(len(parse_log("\n".join(start + many)).events), 120)
        self.assert_wrong_lines(start + many + ["reset j"], 124)
        self.assert_wrong_lines(start + many + ["item y"], 124)

    def test_the_first_of_several_wrong_lines(self):
        self.assert_wrong("item x\ngrades 0\njudge J rises\nreset k", 2)
        self.assert_wrong("item x\ngrades 1\njudge j rises\nanswer j y 0\nanswer k x 0", 4)

    def test_texts_with_a_change(self):
        random = Random(5)
        pieces = ["item x", "item y", "grades 2", "grades 0", "judge ann rises", "judge cid stays", "reset ann",
                  "answer ann x 2", "answer cid y 1", "answer ann x 3", "", " ", "item"]
        wrong_ones = 0
        for log in random_logs(5, 80) + [plain_log()] * 120:
            lines = format_log(log).split("\n")
            for _ in range(random.randint(0, 2)):
                at = random.randrange(len(lines))
                deed = random.randrange(4)
                if deed == 0:
                    lines[at:at + 1] = []
                elif deed == 1:
                    lines.insert(at, random.choice(pieces + lines))
                elif deed == 2:
                    lines[at] = random.choice(pieces)
                elif lines[at]:
                    sign = random.randrange(len(lines[at]))
                    lines[at] = lines[at][:sign] + random.choice("a0 9\n") + lines[at][sign + 1:]
                lines = lines or [""]
            text = "\n".join(lines)
            line = wrong_line(text)
            if line is None:
                self.assertEqual(format_log(parse_log(text)), text)
            else:
                wrong_ones += 1
                self.assert_wrong(text, line)
        self.assertGreater(wrong_ones, 40)


class ReadEvents(unittest.TestCase):
    def test_whatever_names_and_grades(self):
        self.assertEqual(read_event("answer anybody anything 9"), ("answer", "anybody", "anything", 9))
        self.assertEqual(read_event("answer a a 0"), ("answer", "a", "a", 0))
        self.assertEqual(read_event("reset nobody"), ("reset", "nobody"))
        self.assertEqual(read_event("answer reset answer 1"), ("answer", "reset", "answer", 1))

    def test_no_form_of_an_event(self):
        for line in ("", " ", "answer", "reset", "answer j", "answer j x", "answer j x 10", "answer j x -1",
                     "answer j x 01", "answer j x x", "answer j x ", "answer j x 1 ", " answer j x 1",
                     "answer  j x 1", "answer j  x 1", "answer j x  1", "answer j x 1 1", "answer J x 1",
                     "answer j X 1", "answer j x_ 1", "answer j x 1\n", "Answer j x 1", "answer,j,x,1",
                     "answer abcdefghijklm x 1", "answer j abcdefghijklm 1", "answer j x +", "answer j x \u0661",
                     "reset ", "reset  ", "reset j ", "reset  j", " reset j", "reset j j", "reset J", "reset j\n",
                     "reset abcdefghijklm", "RESET j", "item x", "grades 1", "judge j rises", "undo", "drop 1"):
            with self.subTest(line=line):
                self.assertIsNone(read_event(line))


if __name__ == "__main__":
    unittest.main()
