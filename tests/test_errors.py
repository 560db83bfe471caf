import unittest

from risingbars import errors

WITH_MESSAGE = ["InvalidLog", "InvalidPaper", "InvalidDrift", "InvalidBars", "Unexplained", "UnlikeLogs",
                "NotYesAndNo", "TooLarge", "NothingToUndo", "NothingToRedo"]
WITH_VALUE = {"UnknownItem": "name", "UnknownJudge": "name", "NameTaken": "name", "NameInUse": "name",
              "InvalidPlace": "place", "InvalidGrade": "grade", "InvalidNotation": "line"}


class ErrorClasses(unittest.TestCase):
    def test_bar_error_stands_under_value_error(self):
        self.assertEqual(errors.BarError.__bases__, (ValueError,))

    def test_each_class_stands_under_bar_error_alone(self):
        for name in WITH_MESSAGE + list(WITH_VALUE):
            with self.subTest(name=name):
                self.assertEqual(getattr(errors, name).__bases__, (errors.BarError,))

    def test_there_are_no_others(self):
        told = {name for name, thing in vars(errors).items() if isinstance(thing, type)}
        self.assertEqual(told, {"BarError", *WITH_MESSAGE, *WITH_VALUE})

    def test_message(self):
        for name in ["BarError"] + WITH_MESSAGE:
            with self.subTest(name=name):
                self.assertEqual(str(getattr(errors, name)("what is wrong")), "what is wrong")

    def test_attribute(self):
        for name, attribute in WITH_VALUE.items():
            for value in ("x", "", 0, -1, 10 ** 30):
                with self.subTest(name=name, value=value):
                    self.assertEqual(getattr(getattr(errors, name)(value), attribute), value)

    def test_attribute_stays_when_raised(self):
        with self.assertRaises(ValueError) as caught:
            raise errors.InvalidPlace(-3)
        self.assertEqual(caught.exception.place, -3)


if __name__ == "__main__":
    unittest.main()
