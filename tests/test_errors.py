"""The interface: the error classes."""

import unittest

from allsome import errors

MADE_OF_TEXT = ["NotWon", "TooMany", "NoPick", "NoBack", "NoRow", "NoLine"]


class ErrorsTest(unittest.TestCase):
    def test_claim_error_is_right_under_value_error(self):
        self.assertEqual(errors.ClaimError.__bases__, (ValueError,))

    def test_each_stands_right_under_claim_error_and_under_no_other(self):
        for name in ["NoStep", "NoText"] + MADE_OF_TEXT:
            self.assertEqual(getattr(errors, name).__bases__, (errors.ClaimError,), name)
            self.assertTrue(issubclass(getattr(errors, name), ValueError), name)

    def test_no_other_error_is_there(self):
        found = {name for name, value in vars(errors).items() if isinstance(value, type)}
        self.assertEqual(found, set(["ClaimError", "NoStep", "NoText"] + MADE_OF_TEXT))

    def test_no_step_has_its_step(self):
        for step in (0, 1, 699):
            self.assertEqual(errors.NoStep(step).step, step)

    def test_no_text_has_its_line(self):
        for line in (0, 1, 21):
            self.assertEqual(errors.NoText(line).line, line)

    def test_the_others_are_made_of_a_text(self):
        for name in MADE_OF_TEXT:
            self.assertEqual(str(getattr(errors, name)("so it is")), "so it is", name)

    def test_each_is_caught_as_itself_alone(self):
        for name in ["NoStep", "NoText"] + MADE_OF_TEXT:
            made = getattr(errors, name)(3 if name in ("NoStep", "NoText") else "text")
            for other in ["NoStep", "NoText"] + MADE_OF_TEXT:
                self.assertEqual(isinstance(made, getattr(errors, other)), name == other)


if __name__ == "__main__":
    unittest.main()
