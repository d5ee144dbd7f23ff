import unittest

from wirestream.errors import NoPort, NoSegment, WireError


class ErrorsTest(unittest.TestCase):
    def test_any_refusal_is_a_value_error(self):
        self.assertTrue(issubclass(WireError, ValueError))

    def test_each_refusal_stands_below_the_one_for_any(self):
        for refusal in (NoSegment, NoPort):
            self.assertTrue(issubclass(refusal, WireError))
            self.assertIsNot(refusal, WireError)

    def test_the_two_refusals_are_told_apart(self):
        self.assertFalse(issubclass(NoSegment, NoPort))
        self.assertFalse(issubclass(NoPort, NoSegment))


if __name__ == "__main__":
    unittest.main()
