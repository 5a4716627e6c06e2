import unittest

from headcounts import errors


class ErrorClasses(unittest.TestCase):

    def test_count_error_stands_straight_under_value_error(self):
        self.assertEqual(errors.CountError.__bases__, (ValueError,))

    def test_the_four_stand_straight_under_count_error(self):
        for name in ("BadCandidates", "BadBallots", "BadTable", "NotPeaked"):
            with self.subTest(name):
                self.assertEqual(getattr(errors, name).__bases__, (errors.CountError,))

    def test_none_is_another_one(self):
        every = {errors.CountError, errors.BadCandidates, errors.BadBallots, errors.BadTable, errors.NotPeaked}
        self.assertEqual(len(every), 5)

    def test_each_can_be_raised_with_words(self):
        for name in ("CountError", "BadCandidates", "BadBallots", "BadTable", "NotPeaked"):
            with self.subTest(name):
                with self.assertRaises(getattr(errors, name)) as caught:
                    raise getattr(errors, name)("why")
                self.assertEqual(str(caught.exception), "why")


if __name__ == "__main__":
    unittest.main()
