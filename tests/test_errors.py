import unittest

from threadlathe.errors import (
    BadNumber,
    BookFull,
    LatheError,
    NoMeeting,
    NothingDone,
    NoTrain,
    UnknownWheel,
    WrongNut,
)

REFUSALS = (UnknownWheel, NoTrain, WrongNut, BadNumber, NoMeeting, BookFull, NothingDone)


class ErrorsTest(unittest.TestCase):
    def test_lathe_error_stands_under_value_error(self):
        self.assertTrue(issubclass(LatheError, ValueError))
        self.assertIsNot(LatheError, ValueError)

    def test_each_refusal_stands_under_lathe_error(self):
        for refusal in REFUSALS:
            with self.subTest(refusal.__name__):
                self.assertTrue(issubclass(refusal, LatheError))
                self.assertIsNot(refusal, LatheError)

    def test_no_refusal_stands_under_another(self):
        for refusal in REFUSALS:
            for other in REFUSALS:
                with self.subTest(refusal.__name__ + " under " + other.__name__):
                    self.assertEqual(issubclass(refusal, other), refusal.__name__ == other.__name__)

    def test_each_refusal_has_its_own_name(self):
        names = [refusal.__name__ for refusal in REFUSALS]
        self.assertEqual(
            names,
            ["UnknownWheel", "NoTrain", "WrongNut", "BadNumber", "NoMeeting", "BookFull", "NothingDone"],
        )

    def test_a_refusal_is_taken_as_itself_as_lathe_error_and_as_value_error(self):
        for refusal in REFUSALS:
            for taken in (refusal, LatheError, ValueError):
                with self.subTest(refusal.__name__ + " as " + taken.__name__):
                    with self.assertRaises(taken):
                        raise refusal("words")


if __name__ == "__main__":
    unittest.main()
