import unittest

from evenbeats.errors import BadCount, BadRing, BeatError, NoBeat, Uneven


class ErrorsTest(unittest.TestCase):
    def test_the_program_s_error_stands_straight_under_value_error(self):
        self.assertEqual(BeatError.__bases__, (ValueError,))

    def test_each_refusal_stands_straight_under_the_program_s_error(self):
        for refusal in (BadRing, BadCount, NoBeat, Uneven):
            self.assertEqual(refusal.__bases__, (BeatError,))

    def test_they_are_called_as_the_interface_says(self):
        names = [error.__name__ for error in (BeatError, BadRing, BadCount, NoBeat, Uneven)]
        self.assertEqual(names, ["BeatError", "BadRing", "BadCount", "NoBeat", "Uneven"])

    def test_a_refusal_is_not_taken_for_another(self):
        refusals = (BadRing, BadCount, NoBeat, Uneven)
        for refusal in refusals:
            raised = refusal("words")
            self.assertEqual([isinstance(raised, other) for other in refusals].count(True), 1)
            self.assertIsInstance(raised, BeatError)
            self.assertEqual(str(raised), "words")


if __name__ == "__main__":
    unittest.main()
