import unittest

from reckoner.errors import NoSteps, StepError


class ErrorClasses(unittest.TestCase):
    def test_step_error_stands_right_under_value_error(self):
        self.assertEqual(StepError.__bases__, (ValueError,))

    def test_no_steps_stands_right_under_step_error(self):
        self.assertEqual(NoSteps.__bases__, (StepError,))

    def test_no_steps_is_taken_as_any_refusal(self):
        with self.assertRaises(StepError):
            raise NoSteps("a row")
        with self.assertRaises(ValueError):
            raise NoSteps("a row")

    def test_another_refusal_is_not_no_steps(self):
        self.assertNotIsInstance(StepError("a row"), NoSteps)

    def test_words_are_kept(self):
        self.assertEqual(str(StepError("some words")), "some words")
        self.assertEqual(str(NoSteps("some words")), "some words")
