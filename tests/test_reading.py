"""[1.1], [1.2], [1.4]: how a rule is written, what it takes, its tree; [0.1] of read."""

import random
import unittest

from tests.helper import (
    ALL, DOT, MARKED_OUTSIDE, MARKED_WITHIN, Maker, either, fault, maybe, one, plus, row, signs_of, star)
from tokenwright.reading import read

A, B, C, D = one("a"), one("b"), one("c"), one("d")


class SignTest(unittest.TestCase):
    def test_each_sign_that_stands_for_itself(self):
        for sign in ALL:
            if sign not in MARKED_OUTSIDE:
                self.assertEqual(read(sign), one(sign))

    def test_each_sign_behind_a_backslash(self):
        for sign in ".|()[]*+?\\-^":
            self.assertEqual(read("\\" + sign), one(sign))

    def test_the_line_end_in_both_ways(self):
        self.assertEqual(read("\\n"), one("\n"))
        self.assertEqual(read("\n"), one("\n"))
        self.assertEqual(read("n"), one("n"))
        self.assertEqual(read("a\nb"), row(A, one("\n"), B))

    def test_each_other_sign_behind_a_backslash_is_refused(self):
        for sign in ALL:
            if sign not in ".|()[]*+?\\-^n":
                self.assertEqual(fault("\\" + sign), (0, 1))

    def test_a_bare_minus_and_hat_outside_a_class(self):
        self.assertEqual(read("a-b^"), row(A, one("-"), B, one("^")))

    def test_two_backslashes_are_one_sign(self):
        self.assertEqual(read("\\\\n"), row(one("\\"), one("n")))

    def test_a_dot_takes_all_but_the_line_end(self):
        self.assertEqual(read("."), one(DOT))


class ClassTest(unittest.TestCase):
    def test_each_sign_that_stands_for_itself(self):
        for sign in ALL:
            if sign not in MARKED_WITHIN + "^":
                self.assertEqual(signs_of("[" + sign + "]"), sign)

    def test_each_sign_behind_a_backslash(self):
        for sign in ".|()[]*+?\\-^":
            self.assertEqual(signs_of("[\\" + sign + "]"), sign)
        self.assertEqual(signs_of("[\\n]"), "\n")
        self.assertEqual(signs_of("[\n]"), "\n")

    def test_each_other_sign_behind_a_backslash_is_refused(self):
        for sign in ALL:
            if sign not in ".|()[]*+?\\-^n":
                self.assertEqual(fault("[\\" + sign + "]"), (0, 2))
                self.assertEqual(fault("[\n-\\" + sign + "]"), (0, 4))

    def test_a_hat_right_behind_the_bracket_turns_the_class(self):
        self.assertEqual(signs_of("[^a]"), ALL.replace("a", ""))
        self.assertEqual(signs_of("[^^]"), ALL.replace("^", ""))
        self.assertEqual(signs_of("[^^-`]"), ALL.replace("^_`", ""))
        self.assertEqual(signs_of("[^\\^]"), ALL.replace("^", ""))

    def test_a_hat_elsewhere_is_a_sign(self):
        self.assertEqual(signs_of("[a^]"), "^a")
        self.assertEqual(signs_of("[\\^a]"), "^a")
        self.assertEqual(signs_of("[^a^]"), ALL.replace("^", "").replace("a", ""))
        self.assertEqual(signs_of("[A^-b]"), "A^_`ab")
        self.assertEqual(signs_of("[[-^]"), "[\\]^")
        self.assertEqual(signs_of("[\\^-b]"), "^_`ab")

    def test_an_open_bracket_within_a_class(self):
        self.assertEqual(signs_of("[[]"), "[")
        self.assertEqual(signs_of("[(.|*+?)]"), "()*+.?|")

    def test_a_stretch(self):
        self.assertEqual(signs_of("[a-d]"), "abcd")
        self.assertEqual(signs_of("[a-a]"), "a")
        self.assertEqual(signs_of("[a-bd-e]"), "abde")
        self.assertEqual(signs_of("[a-bz]"), "abz")

    def test_a_stretch_with_backslashes(self):
        self.assertEqual(signs_of("[+-\\-]"), "+,-")
        self.assertEqual(signs_of("[\\--/]"), "-./")
        self.assertEqual(signs_of("[\\--\\-]"), "-")
        self.assertEqual(signs_of("[\\\\-\\]]"), "\\]")
        self.assertEqual(signs_of("[Z-\\^]"), "Z[\\]^")

    def test_a_stretch_from_the_line_end(self):
        self.assertEqual(signs_of("[\n-#]"), "\n !\"#")
        self.assertEqual(signs_of("[\\n-#]"), "\n !\"#")
        self.assertEqual(signs_of("[\n-\n]"), "\n")
        self.assertEqual(signs_of("[\n-\\n]"), "\n")
        self.assertEqual(signs_of("[\\n- ]"), "\n ")

    def test_a_stretch_that_passes_37(self):
        self.assertEqual(signs_of("[#-(]"), "#$&'(")
        self.assertNotIn(chr(37), signs_of("[^#-(]"))

    def test_all_signs_and_none(self):
        self.assertEqual(signs_of("[\\n-~]"), ALL)
        self.assertEqual(signs_of("[^\\n-~]"), "")
        self.assertEqual(signs_of("[^.-~\n-\\-]"), "")
        self.assertEqual(signs_of("[.-~\n-\\-]"), ALL)

    def test_all_signs_but_the_line_end_is_the_tree_of_a_dot(self):
        self.assertEqual(read("[^\\n]"), read("."))
        self.assertEqual(read("[ -~]"), read("."))

    def test_signs_told_twice_or_out_of_order(self):
        self.assertEqual(signs_of("[ba]"), "ab")
        self.assertEqual(signs_of("[aaa]"), "a")
        self.assertEqual(signs_of("[c-ea-db]"), "abcde")
        self.assertEqual(signs_of("[z\n ]"), "\n z")
        self.assertEqual(signs_of("[^bab]"), ALL.replace("ab", ""))

    def test_every_stretch(self):
        for first in range(len(ALL)):
            for last in range(first, len(ALL)):
                ends = ["\\" + s if s in "]-\\^" else s for s in (ALL[first], ALL[last])]
                self.assertEqual(signs_of("[" + "-".join(ends) + "]"), ALL[first:last + 1])
                self.assertEqual(signs_of("[^" + "-".join(ends) + "]"), ALL[:first] + ALL[last + 1:])


class TreeTest(unittest.TestCase):
    def check(self, text, tree):
        self.assertEqual(read(text), tree)

    def test_repeats(self):
        self.check("a*", star(A))
        self.check("a+", plus(A))
        self.check("a?", maybe(A))

    def test_several_marks_each_about_all_before_it(self):
        self.check("a*+?", maybe(plus(star(A))))
        self.check("a?+*", star(plus(maybe(A))))
        self.check("a**", star(star(A)))
        self.check("a??", maybe(maybe(A)))

    def test_a_hundred_signs_of_marks(self):
        tree = A
        for _ in range(99):
            tree = star(tree)
        self.check("a" + "*" * 99, tree)

    def test_a_mark_is_about_one_atom_of_a_row(self):
        self.check("ab*", row(A, star(B)))
        self.check("(ab)*", star(row(A, B)))
        self.check("a|b*", either(A, star(B)))
        self.check("(a|b)*", star(either(A, B)))
        self.check("[ab]+.?", row(plus(one("ab")), maybe(one(DOT))))

    def test_rows_and_choices(self):
        self.check("abc", row(A, B, C))
        self.check("a|b|c", either(A, B, C))
        self.check("ab|cd", either(row(A, B), row(C, D)))
        self.check("a(b|c)d", row(A, either(B, C), D))

    def test_a_row_or_choice_of_one_is_that_ones_tree(self):
        self.check("a", A)
        self.check("(a)", A)
        self.check("((a))", A)
        self.check("(ab)", row(A, B))
        self.check("((a|b))", either(A, B))

    def test_brackets_leave_no_trace(self):
        self.check("(a)(b)", row(A, B))
        self.check("(ab)|(c)", either(row(A, B), C))
        self.check("(a*)+", plus(star(A)))
        self.check("((a)*)*", star(star(A)))

    def test_rows_in_rows_and_choices_in_choices_stay(self):
        self.check("(ab)c", row(row(A, B), C))
        self.check("a(bc)", row(A, row(B, C)))
        self.check("(a|b)|c", either(either(A, B), C))
        self.check("a|(b|c)", either(A, either(B, C)))
        self.check("a((bc)d)", row(A, row(row(B, C), D)))

    def test_what_is_alike_is_told_as_often_as_it_is_written(self):
        self.check("a|a", either(A, A))
        self.check("aa", row(A, A))

    def test_brackets_six_deep(self):
        self.check("((((((a))))))", A)
        self.check("(((((" + "(a)(b)" + ")))))", row(A, B))
        self.check("(a(b(c(d(a(bc)d)c)b)a)d)",
                   row(A, row(B, row(C, row(D, row(A, row(B, C), D), C), B), A), D))

    def test_many_brackets_beside_one_another(self):
        self.check("(a)" * 33, row(*[A] * 33))
        self.check("((((((a))))))((((((b))))))", row(A, B))
        self.check("((((((a))))))|((((((b))))))", either(A, B))

    def test_brackets_in_a_class_or_behind_a_backslash_are_not_deep(self):
        self.check("((((((a[(]\\())))))", row(A, one("("), one("(")))

    def test_a_rule_beyond_a_hundred_signs_is_read(self):
        self.check("a" * 130, row(*[A] * 130))
        self.check("a|" * 70 + "a", either(*[A] * 71))

    def test_kinds(self):
        self.assert_tree(read("(a|bc)*[^x]+|.?(de|[^\n-~])"))

    def assert_tree(self, tree):
        self.assertIs(type(tree), tuple)
        kind, inner = tree
        if kind == "one":
            self.assertIs(type(inner), str)
        elif kind in ("row", "or"):
            self.assertIs(type(inner), tuple)
            self.assertGreaterEqual(len(inner), 2)
            for part in inner:
                self.assert_tree(part)
        else:
            self.assertIn(kind, ("star", "plus", "maybe"))
            self.assert_tree(inner)

    def test_rules_made_at_random(self):
        maker = Maker(random.Random(1))
        for _ in range(3000):
            text, tree = maker.choice(6)
            self.assertEqual(read(text), tree, text)


class NothingKeptTest(unittest.TestCase):
    """[0.1]"""

    def test_the_same_text_has_the_same_tree_whatever_was_read_before(self):
        trees = [read("[b-d]*|(a.)+"), read("x")]
        for wrong in ("((((((a", "[^a", "[b-a]", "((((((((", "\\"):
            self.assertIsNotNone(fault(wrong))
        self.assertEqual([read("[b-d]*|(a.)+"), read("x")], trees)
        self.assertEqual(read("((((((a))))))"), A)

    def test_a_tree_can_not_be_changed_by_who_got_it(self):
        hash(read("(a|bc)*[^x]+|.?(de|[^\n-~])"))


if __name__ == "__main__":
    unittest.main()
