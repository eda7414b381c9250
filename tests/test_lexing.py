"""[2.2], [2.3]: the token at a place, all tokens; [0.1] and [0.2] of Lexer."""

import random
import unittest

from tests.helper import ALL, SmallMaker, all_tokens, places_of, refusal, texts_up_to, token_at
from tokenwright.errors import NoToken
from tokenwright.lexing import Lexer
from tokenwright.reading import read

NO_SIGNS = "[^\\n-~]"


class TokenTest(unittest.TestCase):
    def check(self, rules, text, at, told):
        self.assertEqual(Lexer(rules).token(text, at), told)

    def test_the_longest_piece(self):
        self.check(["a+"], "aaab", 0, (0, 3))
        self.check(["a|ab|abc"], "abcd", 0, (0, 3))
        self.check(["[0-9]+(\\.[0-9]+)?"], "12.50x", 0, (0, 5))

    def test_a_longer_piece_by_a_later_rule(self):
        self.check(["if", "[a-z]+"], "iffy", 0, (1, 4))
        self.check(["a", "ab", "abc"], "abcabc", 0, (2, 3))

    def test_the_same_piece_by_two_rules(self):
        self.check(["if", "[a-z]+"], "if x", 0, (0, 2))
        self.check(["[a-z]+", "if"], "if x", 0, (0, 2))
        self.check(["x", "[ab]c", "a.", "ac"], "ac", 0, (1, 2))

    def test_a_piece_that_goes_on_and_has_to_be_given_back(self):
        self.check(["a", "abcd"], "abce", 0, (0, 1))
        self.check(["[0-9]+(\\.[0-9]+)?"], "12.x", 0, (0, 2))
        self.check(["a(bc)*"], "abcbcb", 0, (0, 5))
        self.check(["a", "a*b"], "aaaa", 0, (0, 1))

    def test_of_what_was_given_back_the_longest_is_kept(self):
        self.check(["ab", "a", "abcde"], "abcd", 0, (0, 2))
        self.check(["a", "aa", "aaaaa"], "aaaa", 0, (1, 2))

    def test_at_other_places(self):
        self.check(["a+", "b+"], "aabbb", 1, (0, 1))
        self.check(["a+", "b+"], "aabbb", 2, (1, 3))
        self.check(["a+", "b+"], "aabbb", 4, (1, 1))

    def test_at_the_text_s_length(self):
        self.check(["a"], "a", 1, None)
        self.check(["a"], "", 0, None)
        self.check(["."], "a" * 300, 300, None)

    def test_none_where_there_is_no_token(self):
        self.check(["a"], "b", 0, None)
        self.check(["ab"], "a", 0, None)
        self.check(["ab"], "aab", 0, None)
        self.check(["a"], "ab", 1, None)

    def test_no_rules_and_rules_that_take_no_text(self):
        self.check([], "a", 0, None)
        self.check([NO_SIGNS], "a", 0, None)
        self.check([NO_SIGNS + "+", "a" + NO_SIGNS, "a"], "a", 0, (2, 1))
        self.check(["a" + NO_SIGNS + "?b"], "abb", 0, (0, 2))

    def test_a_dot_takes_no_line_end(self):
        self.check([".+"], "ab\ncd", 0, (0, 2))
        self.check([".+"], "ab\ncd", 2, None)
        self.check(["[^x]+"], "ab\ncd", 0, (0, 5))

    def test_marks_about_marks(self):
        self.check(["(a?b)+"], "babbab", 0, (0, 6))
        self.check(["(a?)+b"], "aaab", 0, (0, 4))
        self.check(["((ab)?c)+"], "cabcab", 0, (0, 4))
        self.check(["(a*b*)*c"], "abbac", 0, (0, 5))
        self.check(["(a+)?b"], "aab", 0, (0, 3))
        self.check(["a" + "+*?" * 32 + "b"], "aaab", 0, (0, 4))

    def test_each_sign(self):
        lexer = Lexer(["[\\n-~]"])
        for at in range(len(ALL)):
            self.assertEqual(lexer.token(ALL, at), (0, 1))

    def test_kinds(self):
        told = Lexer(["x", "a+"]).token("aa", 0)
        self.assertIs(type(told), tuple)
        self.assertEqual([type(part) for part in told], [int, int])


class TokensTest(unittest.TestCase):
    def check(self, rules, text, told):
        self.assertEqual(Lexer(rules).tokens(text), told)

    def refused(self, rules, text, at):
        with self.assertRaises(NoToken) as told:
            Lexer(rules).tokens(text)
        self.assertEqual(told.exception.at, at)

    def test_the_empty_text(self):
        self.check(["a"], "", [])
        self.check([], "", [])
        self.check([NO_SIGNS], "", [])

    def test_an_ordinary_text(self):
        self.check(["if|then", "[a-z]+", "[0-9]+", "[ \\n]+", "[<=>]+"], "if x1 <= 10\nthen yes",
                   [(0, "if"), (3, " "), (1, "x"), (2, "1"), (3, " "), (4, "<="), (3, " "), (2, "10"), (3, "\n"),
                    (0, "then"), (3, " "), (1, "yes")])

    def test_what_was_given_back_is_cut_anew(self):
        self.check(["a", "a*b"], "aaaaba", [(1, "aaaab"), (0, "a")])
        self.check(["a", "a*b", "c"], "aac", [(0, "a"), (0, "a"), (2, "c")])
        self.check(["[0-9]+(\\.[0-9]+)?", "\\."], "1.2.3.", [(0, "1.2"), (1, "."), (0, "3"), (1, ".")])

    def test_no_token_at_the_beginning(self):
        self.refused(["a"], "b", 0)
        self.refused(["ab"], "a", 0)
        self.refused([], "a", 0)
        self.refused([NO_SIGNS], "aa", 0)

    def test_no_token_at_a_later_place(self):
        self.refused(["a"], "aab", 2)
        self.refused(["a+", "bc"], "aabcaab", 6)
        self.refused(["a"], "a" * 299 + "b", 299)
        self.refused(["aa"], "aaa", 2)

    def test_longest_match_though_a_shorter_one_would_go_on(self):
        self.refused(["a", "ab", "bc"], "abc", 2)

    def test_three_hundred_signs_and_more(self):
        self.check(["a"], "a" * 300, [(0, "a")] * 300)
        self.check(["a+"], "a" * 400, [(0, "a" * 400)])

    def test_six_rules_with_twenty_four_places(self):
        rules = ["abcd", "[ab]+c*d", "(x|y)z?[^a]e", "[0-9]..[0-9]", "[a-z]+[0-9]?!?\\n", "\\(\\)[\\]]q?"]
        self.assertEqual(sum(places_of(read(rule)) for rule in rules), 24)
        self.refused(rules, "abcdxzqe()]q12345", 16)
        self.check(rules, "abcdxzqe()]q1234abc\n",
                   [(0, "abcd"), (2, "xzqe"), (5, "()]q"), (3, "1234"), (4, "abc\n")])

    def test_kinds(self):
        told = Lexer(["x", "a+"]).tokens("aax")
        self.assertIs(type(told), list)
        for pair in told:
            self.assertIs(type(pair), tuple)
            self.assertEqual([type(part) for part in pair], [int, str])


class BruteForceTest(unittest.TestCase):
    def test_all_short_texts(self):
        maker = SmallMaker(random.Random(21))
        texts = texts_up_to("\nabc", 4)
        for _ in range(150):
            rules = maker.rules(maker.chance.randint(1, 6))
            lexer, trees = Lexer(rules), [read(rule) for rule in rules]
            for text in texts:
                self.check(lexer, trees, rules, text)

    def test_longer_texts_and_many_places(self):
        maker = SmallMaker(random.Random(22))
        for _ in range(150):
            rules = maker.rules(maker.chance.randint(7, 24))
            lexer, trees = Lexer(rules), [read(rule) for rule in rules]
            for size in (3, 8, 14):
                text = "".join(maker.chance.choice("aabbc\n") for _ in range(size))
                self.check(lexer, trees, rules, text)

    def check(self, lexer, trees, rules, text):
        for at in range(len(text) + 1):
            self.assertEqual(lexer.token(text, at), token_at(trees, text, at), (rules, text, at))
        told, at = all_tokens(trees, text)
        if at is None:
            self.assertEqual(lexer.tokens(text), told, (rules, text))
        else:
            self.assertEqual(refusal(lexer.tokens, text), ("NoToken", at), (rules, text))


class NothingKeptTest(unittest.TestCase):
    """[0.1]"""

    def test_the_rules_are_not_changed_and_not_kept(self):
        rules = ["a+", "b"]
        lexer = Lexer(rules)
        self.assertEqual(rules, ["a+", "b"])
        rules[0] = "c"
        rules.append("d")
        self.assertEqual(lexer.tokens("aab"), [(0, "aa"), (1, "b")])
        self.assertEqual(refusal(lexer.tokens, "d"), ("NoToken", 0))
        rules.clear()
        self.assertEqual(lexer.token("aab", 0), (0, 2))

    def test_lists_are_new_each_time(self):
        lexer = Lexer(["a"])
        told = lexer.tokens("aa")
        told.clear()
        self.assertEqual(lexer.tokens("aa"), [(0, "a"), (0, "a")])
        empty = lexer.tokens("")
        empty.append(1)
        self.assertEqual(lexer.tokens(""), [])

    def test_one_text_leaves_no_trace_in_the_next(self):
        lexer = Lexer(["ab*c", "a"])
        self.assertEqual(refusal(lexer.tokens, "abbb"), ("NoToken", 1))
        self.assertEqual(lexer.tokens("abbc"), [(0, "abbc")])


if __name__ == "__main__":
    unittest.main()
