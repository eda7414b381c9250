import unittest

from tokenwright import errors


class ErrorsTest(unittest.TestCase):
    def test_each_stands_right_below_token_error(self):
        self.assertEqual(errors.TokenError.__bases__, (ValueError,))
        for error in (errors.BadRule, errors.TakesNothing, errors.TooMany, errors.NoToken):
            self.assertEqual(error.__bases__, (errors.TokenError,))

    def test_a_bare_refusal_can_be_made(self):
        self.assertIsInstance(errors.TokenError("words"), ValueError)

    def test_values_are_set_when_an_object_is_made(self):
        refusal = errors.BadRule(3, 14)
        self.assertEqual((refusal.rule, refusal.at), (3, 14))
        self.assertEqual(errors.TakesNothing(2).rule, 2)
        self.assertEqual(errors.TooMany(6).rule, 6)
        self.assertEqual(errors.NoToken(299).at, 299)

    def test_values_by_their_names(self):
        refusal = errors.BadRule(at=1, rule=0)
        self.assertEqual((refusal.rule, refusal.at), (0, 1))
        self.assertEqual(errors.TakesNothing(rule=0).rule, 0)
        self.assertEqual(errors.TooMany(rule=0).rule, 0)
        self.assertEqual(errors.NoToken(at=0).at, 0)

    def test_each_is_taken_as_token_error_and_not_as_another(self):
        made = (errors.BadRule(0, 0), errors.TakesNothing(0), errors.TooMany(0), errors.NoToken(0))
        for refusal in made:
            with self.assertRaises(errors.TokenError):
                raise refusal
            others = [other for other in made if other is not refusal]
            for other in others:
                self.assertNotIsInstance(refusal, type(other))


if __name__ == "__main__":
    unittest.main()
