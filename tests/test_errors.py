import unittest

from rulefound import errors


class Errors(unittest.TestCase):
    def test_any_refusal_stands_straight_under_value_error(self):
        self.assertEqual(errors.RuleError.__bases__, (ValueError,))

    def test_each_refusal_stands_straight_under_rule_error(self):
        for name in ("NoPrime", "NoRow", "NoRule", "NoPlace", "TooLarge", "NoTurn", "NoNote"):
            with self.subTest(name=name):
                refusal = getattr(errors, name)
                self.assertEqual(refusal.__name__, name)
                self.assertEqual(refusal.__bases__, (errors.RuleError,))
