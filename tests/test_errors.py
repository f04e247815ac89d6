"""Point 7 and the interface of printlane/errors.py."""

import unittest

from printlane.errors import Broke, LaneError, NoJob, NoOwner, NoPages

REFUSALS = (NoOwner, NoPages, Broke, NoJob)


class ErrorsTest(unittest.TestCase):
    def test_lane_error_is_a_value_error(self):
        self.assertEqual(LaneError.__bases__, (ValueError,))

    def test_each_refusal_is_a_lane_error(self):
        for refusal in REFUSALS:
            with self.subTest(refusal=refusal.__name__):
                self.assertEqual(refusal.__bases__, (LaneError,))

    def test_no_refusal_stands_under_another(self):
        for one in REFUSALS:
            for other in REFUSALS:
                with self.subTest(one=one.__name__, other=other.__name__):
                    self.assertEqual(issubclass(one, other), one.__name__ == other.__name__)

    def test_the_classes_have_their_names(self):
        names = [refusal.__name__ for refusal in (LaneError,) + REFUSALS]
        self.assertEqual(names, ["LaneError", "NoOwner", "NoPages", "Broke", "NoJob"])

    def test_each_is_taken_as_itself_as_a_lane_error_and_as_a_value_error(self):
        for refusal in REFUSALS:
            for taken in (refusal, LaneError, ValueError):
                with self.subTest(refusal=refusal.__name__, taken=taken.__name__):
                    with self.assertRaises(taken) as caught:
                        raise refusal("some words")
                    self.assertIs(type(caught.exception), refusal)
                    self.assertEqual(str(caught.exception), "some words")

    def test_none_is_taken_as_another(self):
        for refusal in REFUSALS:
            others = tuple(other for other in REFUSALS if other is not refusal)
            with self.subTest(refusal=refusal.__name__):
                try:
                    raise refusal("some words")
                except others:
                    self.fail("taken as another refusal")
                except LaneError:
                    pass


if __name__ == "__main__":
    unittest.main()
