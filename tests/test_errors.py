import unittest

from grooveway import errors

WITH_TEXT = ["BadMarks", "BadRule", "BadMark", "TooLarge", "Nothing", "NoRow", "BadSign", "Unread"]
WITH_ROW = ["BadRow", "BadTable"]


class RefusalsTest(unittest.TestCase):
    def test_groove_error_stands_straight_under_value_error(self):
        self.assertEqual(errors.GrooveError.__bases__, (ValueError,))

    def test_each_refusal_stands_straight_under_groove_error(self):
        for name in WITH_TEXT + WITH_ROW:
            with self.subTest(name=name):
                self.assertEqual(getattr(errors, name).__bases__, (errors.GrooveError,))

    def test_no_refusal_is_another_one_or_under_it(self):
        kinds = [getattr(errors, name) for name in WITH_TEXT + WITH_ROW]
        self.assertEqual(len(set(kinds)), 10)
        for one in kinds:
            for other in kinds:
                self.assertEqual(issubclass(one, other), one == other, (one, other))

    def test_those_made_with_a_text(self):
        for name in WITH_TEXT:
            with self.subTest(name=name), self.assertRaisesRegex(getattr(errors, name), "so it is"):
                raise getattr(errors, name)("so it is")

    def test_those_made_with_a_row_number_keep_it(self):
        for name in WITH_ROW:
            for number in (1, 2, 317):
                with self.subTest(name=name, number=number):
                    with self.assertRaises(errors.GrooveError) as caught:
                        raise getattr(errors, name)(number)
                    self.assertIs(type(caught.exception.row), int)
                    self.assertEqual(caught.exception.row, number)


if __name__ == "__main__":
    unittest.main()
