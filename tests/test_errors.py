"""The interface's head, and errors.py."""

import inspect
import unittest

from answerhouse import asking, bearing, errors, houses, mending, notes, papers

PLAIN = ("BadSaying", "BadCount", "NoRow", "NoFollow")
NUMBERED = ("BadRow", "BadSteps", "BadDeed")


class Errors(unittest.TestCase):
    def test_each_stands_right_under_answer_error(self):
        self.assertEqual(errors.AnswerError.__bases__, (ValueError,))
        for name in (*PLAIN, *NUMBERED, "Halted", "BadText"):
            self.assertEqual(getattr(errors, name).__bases__, (errors.AnswerError,), name)

    def test_values_are_set_when_the_error_is_made(self):
        for name in NUMBERED:
            self.assertEqual(getattr(errors, name)(7).number, 7, name)
        halted = errors.Halted(3, 2)
        self.assertEqual((halted.number, halted.done), (3, 2))
        self.assertEqual(errors.BadText(5).row, 5)

    def test_plain_ones_can_be_raised(self):
        for name in PLAIN:
            with self.assertRaises(errors.AnswerError):
                raise getattr(errors, name)("why")


class Interface(unittest.TestCase):
    def assert_listed(self, module, name, arguments):
        function = getattr(module, name)
        self.assertEqual(function.__module__, module.__name__)
        self.assertEqual(str(inspect.signature(function)), arguments)

    def test_functions_have_the_listed_arguments(self):
        self.assert_listed(bearing, "follows", "(rows)")
        self.assert_listed(bearing, "bearers", "(rows, saying)")
        self.assert_listed(bearing, "clashes", "(rows)")
        self.assert_listed(asking, "ask", "(rows, saying)")
        self.assert_listed(asking, "against", "(rows, saying)")
        self.assert_listed(asking, "which", "(rows, question, *, answer='yes')")
        self.assert_listed(asking, "missing", "(rows, saying, *, most=1)")
        for name in ("mended", "trusted", "needless"):
            self.assert_listed(mending, name, "(rows)")
        self.assert_listed(mending, "hanging", "(rows, number)")
        self.assert_listed(mending, "parted", "(rows, other)")
        self.assert_listed(papers, "paper", "(rows, saying)")
        self.assert_listed(papers, "read_steps", "(rows, steps)")
        self.assert_listed(houses, "House", "(rows)")
        self.assert_listed(notes, "written", "(rows)")
        self.assert_listed(notes, "read", "(text)")


if __name__ == "__main__":
    unittest.main()
