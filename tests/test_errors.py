import unittest

from meetbook.errors import MeetError, NoHand, NoLine, SameHand

REFUSALS = (NoHand, SameHand, NoLine)


class ErrorClasses(unittest.TestCase):
    def test_meet_error_stands_straight_under_value_error(self):
        self.assertEqual(MeetError.__bases__, (ValueError,))

    def test_each_refusal_stands_straight_under_meet_error(self):
        for refusal in REFUSALS:
            with self.subTest(refusal=refusal.__name__):
                self.assertEqual(refusal.__bases__, (MeetError,))

    def test_no_refusal_stands_under_another(self):
        for refusal in REFUSALS:
            for another in REFUSALS:
                with self.subTest(refusal=refusal.__name__, another=another.__name__):
                    self.assertEqual(issubclass(refusal, another), refusal == another)

    def test_each_bears_its_name(self):
        names = [refusal.__name__ for refusal in (MeetError,) + REFUSALS]
        self.assertEqual(names, ["MeetError", "NoHand", "SameHand", "NoLine"])

    def test_each_is_taken_as_meet_error_and_as_value_error(self):
        for refusal in (MeetError,) + REFUSALS:
            for taken in (refusal, MeetError, ValueError):
                with self.subTest(refusal=refusal.__name__, taken=taken.__name__):
                    with self.assertRaises(taken) as caught:
                        raise refusal("words")
                    self.assertEqual(str(caught.exception), "words")

    def test_no_refusal_is_taken_as_another(self):
        for refusal in REFUSALS:
            for another in REFUSALS:
                if refusal != another:
                    with self.subTest(refusal=refusal.__name__, another=another.__name__):
                        self.assertEqual(self.taken_by(refusal, another), "passed on")

    def taken_by(self, refusal, another):
        try:
            raise refusal("words")
        except another:
            return "taken"
        except MeetError:
            return "passed on"


if __name__ == "__main__":
    unittest.main()
