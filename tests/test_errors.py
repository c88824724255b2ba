import unittest

from leadson.errors import BadLeading, BadPlace, BadSteps, LeadError, NotBack, Unlike

REFUSALS = (BadLeading, BadPlace, BadSteps, Unlike, NotBack)


class Errors(unittest.TestCase):
    def test_lead_error_is_a_value_error(self):
        self.assertEqual(LeadError.__bases__, (ValueError,))

    def test_each_refusal_stands_straight_under_it(self):
        for refusal in REFUSALS:
            with self.subTest(refusal=refusal.__name__):
                self.assertEqual(refusal.__bases__, (LeadError,))

    def test_names_and_classes_are_distinct(self):
        self.assertEqual(len(set(REFUSALS)), 5)
        self.assertEqual(
            [refusal.__name__ for refusal in REFUSALS],
            ["BadLeading", "BadPlace", "BadSteps", "Unlike", "NotBack"],
        )

    def test_each_can_be_raised_and_taken_as_the_common_one(self):
        for refusal in REFUSALS:
            with self.subTest(refusal=refusal.__name__):
                with self.assertRaises(LeadError):
                    raise refusal("words")
