"""[2.1] and [3.1]: the faults of a row of rules and their order, wherever rules are handed in."""

import random
import unittest

from tests.helper import Maker, fault, places_of, refusal, takes
from tokenwright.comparing import difference, samples, unused
from tokenwright.errors import BadRule, TakesNothing, TokenError, TooMany
from tokenwright.lexing import Lexer
from tokenwright.reading import read
from tokenwright.tables import table_of

TAKERS = (
    ("Lexer", Lexer, 24),
    ("table_of", table_of, 10),
    ("samples", samples, 10),
    ("unused", unused, 10),
    ("difference", lambda rules: difference(rules, ["a"]), 10),
    ("difference, the other", lambda rules: difference(["a"], rules), 10),
)
NO_SIGNS = "[^\\n-~]"


def expected(rules, most):
    """What [2.1] asks, said once more."""
    places = 0
    for number, rule in enumerate(rules[:6]):
        told = fault(rule)
        if told is not None:
            return ("BadRule", number, told[1])
        if takes(read(rule), ""):
            return ("TakesNothing", number)
        places += places_of(read(rule))
        if places > most:
            return ("TooMany", number)
    return ("TooMany", 6) if len(rules) > 6 else None


class FaultsOfRowsTest(unittest.TestCase):
    def each(self, check):
        for name, call, most in TAKERS:
            with self.subTest(name):
                check(call, most)

    def check(self, rules, told):
        self.each(lambda call, most: self.assertEqual(refusal(call, rules), told, rules))

    def test_no_fault(self):
        self.check(["a"], None)
        self.check(["a", "b", "c", "d", "e", "f"], None)
        self.check(["[a-z]+", "[0-9]+(\\.[0-9]+)?", " +|\\n"], None)

    def test_no_rules_at_all(self):
        self.check([], None)

    def test_a_bad_rule_with_its_number_and_place(self):
        self.check(["("], ("BadRule", 0, 1))
        self.check(["a", "b", "c[b-a]"], ("BadRule", 2, 4))
        self.check(["a", "b", "c", "d", "e", ""], ("BadRule", 5, 0))
        self.check(["a)", "b)"], ("BadRule", 0, 1))

    def test_a_rule_that_takes_the_empty_text(self):
        for rule in ("a*", "a?", "a*b*", "a?b*c?", "a|b*", "a?|b", "(ab)*", "(a|b?)+", "a?+", "a+?", "a+*",
                     "(a*)(b|c*)", NO_SIGNS + "*", NO_SIGNS + "?", "((((((a*))))))", "a" + "?" * 99):
            self.check([rule], ("TakesNothing", 0))
            self.check(["x", rule], ("TakesNothing", 1))

    def test_a_rule_that_does_not_take_the_empty_text(self):
        for rule in ("a+", "a*b", "ab*", "a?b", "a|b+", "(a|b)+", "a?b?c", "(a*b)+", "a" + "+" * 99):
            self.check([rule], None)

    def test_a_rule_that_takes_no_text_is_no_fault(self):
        for rule in (NO_SIGNS, NO_SIGNS + "+", "a" + NO_SIGNS, NO_SIGNS + "a*", "(" + NO_SIGNS + "|b)+" + NO_SIGNS):
            self.check([rule], None)

    def test_as_many_places_as_may_be_and_one_more(self):
        def check(call, most):
            self.assertIsNone(refusal(call, ["a" * most]))
            self.assertEqual(refusal(call, ["a" * (most + 1)]), ("TooMany", 0))
            self.assertIsNone(refusal(call, ["a" * (most - 1), "b"]))
            self.assertEqual(refusal(call, ["a" * (most - 1), "b", "c"]), ("TooMany", 2))
            self.assertEqual(refusal(call, ["a" * (most - 1), "bc", "d"]), ("TooMany", 1))
        self.each(check)

    def test_written_signs_dots_and_classes_are_places(self):
        def check(call, most):
            row = "(.[a-z]\\n\n[^a](\\\\|-))+"
            self.assertIsNone(refusal(call, [row, "." * (most - 7)]))
            self.assertEqual(refusal(call, [row, "." * (most - 6)]), ("TooMany", 1))
        self.each(check)

    def test_places_that_take_nothing_count(self):
        def check(call, most):
            self.assertIsNone(refusal(call, ["a" * (most - 1), NO_SIGNS]))
            self.assertEqual(refusal(call, ["a" * most, NO_SIGNS]), ("TooMany", 1))
        self.each(check)

    def test_of_one_rule_the_empty_text_comes_ahead_of_too_many(self):
        self.check(["(" + "a" * 25 + ")*"], ("TakesNothing", 0))
        self.check(["a" * 10, "(" + "a" * 15 + ")?"], ("TakesNothing", 1))

    def test_of_one_rule_what_is_no_rule_comes_first(self):
        self.check(["(" + "a" * 30], ("BadRule", 0, 31))
        self.check(["a*("], ("BadRule", 0, 3))

    def test_of_several_rules_the_first_with_a_fault(self):
        self.check(["a*", "("], ("TakesNothing", 0))
        self.check(["a" * 25, "("], ("TooMany", 0))
        self.check(["a" * 25, "a*"], ("TooMany", 0))
        self.check(["a", "b*", "(", "a" * 25], ("TakesNothing", 1))

    def test_a_seventh_rule(self):
        six = ["a", "b", "c", "d", "e", "f"]
        for seventh in ("g", "a", "(", "", "g*", "g" * 30, NO_SIGNS, None, 7):
            self.check(six + [seventh], ("TooMany", 6))
            self.check(six + [seventh, "h"], ("TooMany", 6))

    def test_faults_of_the_first_six_come_ahead_of_a_seventh(self):
        five = ["a", "b", "c", "d", "e"]
        self.check(five + ["(", "g"], ("BadRule", 5, 1))
        self.check(five + ["f*", "g"], ("TakesNothing", 5))
        self.check(five + ["f" * 20, "g"], ("TooMany", 5))
        self.check(["f*"] + five + ["("], ("TakesNothing", 0))

    def test_of_two_rows_the_first_is_looked_at_first(self):
        self.assertEqual(refusal(difference, ["a", "b*"], ["("]), ("TakesNothing", 1))
        self.assertEqual(refusal(difference, ["a", "b"], ["c", "("]), ("BadRule", 1, 1))
        self.assertIsNone(refusal(difference, ["a" * 10], ["b" * 10]))

    def test_a_long_rule_is_not_refused_for_its_size(self):
        self.check(["[" + "ab" * 60 + "]"], None)

    def test_classes_and_kinds(self):
        for rules, error in ((["("], BadRule), (["a*"], TakesNothing), (["a" * 25], TooMany)):
            with self.assertRaises(TokenError) as told:
                Lexer(rules)
            self.assertIs(type(told.exception), error)
            self.assertIs(type(told.exception.rule), int)

    def test_rows_made_at_random(self):
        chance = random.Random(11)
        maker = Maker(chance)
        for _ in range(400):
            rules = [maker.choice(2)[0] for _ in range(chance.randint(0, 8))]
            if rules and chance.random() < 0.3:
                at = chance.randrange(len(rules))
                rules[at] = rules[at][:-1]
            before = list(rules)
            self.assertEqual(refusal(Lexer, rules), expected(rules, 24), rules)
            self.assertEqual(refusal(table_of, rules), expected(rules, 10), rules)
            self.assertEqual(rules, before)


if __name__ == "__main__":
    unittest.main()
