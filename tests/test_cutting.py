"""[2.4]: a text that comes in pieces; [0.1] and [0.2] of Cutter."""

import random
import unittest

from tests.helper import ALL, SmallMaker, all_tokens, places_of, texts_up_to, token_at
from tokenwright.errors import NoToken
from tokenwright.lexing import Cutter, Lexer
from tokenwright.reading import read

NO_SIGNS = "[^\\n-~]"


def answer(call, *given):
    """What is told, or the place of NoToken."""
    try:
        return call(*given)
    except NoToken as told:
        return told.at


class CutterTest(unittest.TestCase):
    def check(self, rules, steps, *at_the_end):
        """Each step is a piece with what is told behind it; then what end tells, call by call."""
        cutter = Cutter(Lexer(rules))
        for piece, told in steps:
            self.assertEqual(answer(cutter.take, piece), told, piece)
        for told in at_the_end:
            self.assertEqual(answer(cutter.end), told)

    def test_a_token_that_could_be_longer_is_not_told(self):
        self.check(["a+"], [("a", []), ("a", [])], [(0, "aa")])
        self.check(["a", "ab"], [("a", [])], [(0, "a")])
        self.check(["a", "abcd"], [("a", []), ("b", []), ("c", []), ("d", [(1, "abcd")])], [])

    def test_a_token_that_can_not_be_longer_is_told_at_once(self):
        self.check(["a"], [("a", [(0, "a")]), ("a", [(0, "a")])], [])
        self.check(["a+b", "c"], [("aab", [(0, "aab")]), ("c", [(1, "c")])], [])
        self.check(["aa?"], [("a", []), ("a", [(0, "aa")]), ("a", [])], [(0, "a")])

    def test_a_token_is_told_once_what_comes_shows_it_to_be_over(self):
        self.check(["a+", "b"], [("a", []), ("b", [(0, "a"), (1, "b")])], [])
        self.check(["a+", "b+"], [("a", []), ("b", [(0, "a")]), ("a", [(1, "b")])], [(0, "a")])

    def test_a_token_whose_longer_form_no_text_makes_is_told_at_once(self):
        self.check(["a", "ab" + NO_SIGNS], [("a", [(0, "a")])], [])
        self.check(["a", "a" + NO_SIGNS + "b"], [("a", [(0, "a")])], [])
        self.check(["a(b" + NO_SIGNS + ")*", "b"], [("a", [(0, "a")]), ("b", [(1, "b")])], [])
        self.check(["a" + NO_SIGNS + "?b?"], [("a", []), ("b", [(0, "ab")])], [])

    def test_a_token_whose_longer_form_is_far_off_is_not_told(self):
        self.check(["a", "ab*c"], [("a", []), ("b", []), ("bb", []), ("c", [(1, "abbbc")])], [])
        self.check(["a", "ab*c", "b"], [("abb", []), ("a", [(0, "a"), (2, "b"), (2, "b")])], [(0, "a")])

    def test_a_place_without_a_token_yet(self):
        self.check(["ab"], [("a", []), ("b", [(0, "ab")])], [])
        self.check(["ab"], [("a", [])], 0, 0)
        self.check(["ab", "c"], [("ca", [(1, "c")]), ("", []), ("b", [(0, "ab")])], [])

    def test_a_place_without_a_token_of_which_no_text_makes_one(self):
        self.check(["ab" + NO_SIGNS, "c"], [("a", 0)], 0)
        self.check(["ab", "b"], [("a", []), ("a", 0), ("b", 0)], 0)

    def test_tokens_behind_one_that_is_not_sure_wait_too(self):
        self.check(["a", "a*b"], [("aaa", []), ("a", [])], [(0, "a")] * 4)
        self.check(["a", "b", "(ab)*c"], [("abab", [])], [(0, "a"), (1, "b"), (0, "a"), (1, "b")])
        self.check(["a", "b", "(ab)*c", "d"], [("abab", []), ("d", [(0, "a"), (1, "b"), (0, "a"), (1, "b"), (3, "d")])])

    def test_some_of_what_waited_is_told_and_the_rest_waits_on(self):
        self.check(["a", "b", "abc", "bbd"], [("ab", []), ("b", [(0, "a")]), ("d", [(3, "bbd")])], [])

    def test_empty_pieces(self):
        self.check(["a", "b+"], [("", []), ("", []), ("a", [(0, "a")]), ("", []), ("b", []), ("", [])], [(1, "b")])
        self.check(["a"], [("", [])], [])
        self.check(["a"], [], [], [])

    def test_the_empty_text_is_never_refused(self):
        for rules in ([], [NO_SIGNS], ["a"]):
            self.check(rules, [("", []), ("", [])], [], [])

    def test_rules_that_take_no_text(self):
        self.check([], [("", []), ("a", 0), ("", 0)], 0, 0)
        self.check([NO_SIGNS], [("", []), ("a", 0)], 0)

    def test_no_token_in_the_same_call_where_none_is_told_ahead_of_it(self):
        self.check(["a"], [("b", 0)], 0)
        self.check(["a"], [("a", [(0, "a")]), ("b", 1), ("a", 1), ("", 1)], 1, 1)
        self.check(["ab", "c"], [("a", []), ("c", 0)], 0)

    def test_no_token_from_the_next_call_on_where_some_are_told(self):
        self.check(["a"], [("ab", [(0, "a")]), ("", 1), ("a", 1)], 1, 1)
        self.check(["a"], [("ab", [(0, "a")])], 1, 1)
        self.check(["a+"], [("aa", []), ("b", [(0, "aa")]), ("a", 2)], 2)

    def test_no_token_at_the_end(self):
        self.check(["a", "bc"], [("aab", [(0, "a"), (0, "a")])], 2, 2)
        self.check(["a+", "bc"], [("aa", [])], [(0, "aa")], [])
        self.check(["a", "a*b", "cd"], [("aac", [(0, "a"), (0, "a")])], 2, 2)
        self.check(["a", "aab*c", "bd"], [("aab", [])], [(0, "a"), (0, "a")], 2, 2)

    def test_the_place_is_that_in_the_whole_text(self):
        self.check(["[a-z]+", " "], [("one ", [(0, "one"), (1, " ")]), ("two ", [(0, "two"), (1, " ")]), ("!", 8)], 8)
        self.check(["aa"], [("a" * 150, [(0, "aa")] * 75), ("a" * 149, [(0, "aa")] * 74), ("b", 298)], 298)

    def test_the_end_once_more_tells_no_tokens(self):
        self.check(["a+"], [("aa", [])], [(0, "aa")], [], [])
        self.check(["a"], [("aa", [(0, "a"), (0, "a")])], [], [])

    def test_the_end_alone(self):
        self.check(["a"], [], [], [])

    def test_every_sign(self):
        self.check(["[\\n-~]"], [(sign, [(0, sign)]) for sign in ALL], [])

    def test_kinds(self):
        cutter = Cutter(Lexer(["a", "b+"]))
        for told in (cutter.take("ab"), cutter.take("b"), cutter.end(), cutter.end()):
            self.assertIs(type(told), list)
            for pair in told:
                self.assertIs(type(pair), tuple)
                self.assertEqual([type(part) for part in pair], [int, str])


class Model:
    """What is sure of a text that has come, straight from [2.4]: texts behind it are tried."""

    def __init__(self, rules, signs):
        self.trees = [read(rule) for rule in rules]
        # No way to a rule's end passes a place twice, so no longer texts need to be tried.
        self.more = texts_up_to(signs, sum(places_of(tree) for tree in self.trees))[1:]
        self.known = {}

    def is_open(self, rest):
        if rest not in self.known:
            now = token_at(self.trees, rest, 0)
            self.known[rest] = any(token_at(self.trees, rest + more, 0) != now for more in self.more)
        return self.known[rest]

    def sure(self, come, ended):
        """The sure tokens, and the place at which it is sure that none goes on or None."""
        if ended:
            return all_tokens(self.trees, come)
        told, at = [], 0
        while at < len(come) and not self.is_open(come[at:]):
            found = token_at(self.trees, come, at)
            if found is None:
                return told, at
            told.append((found[0], come[at:at + found[1]]))
            at += found[1]
        return told, None


class BruteForceTest(unittest.TestCase):
    def pieces(self, chance, text):
        made = []
        while text:
            size = chance.choice((0, 1, 1, 2, 3))
            made.append(text[:size])
            text = text[size:]
        return made

    def check(self, model, rules, pieces):
        cutter, come, told = Cutter(Lexer(rules)), "", 0
        for piece in pieces + [None, None]:
            come += piece or ""
            sure, stuck = model.sure(come, piece is None)
            fresh = sure[told:]
            expected = stuck if stuck is not None and not fresh else fresh
            heard = answer(cutter.end) if piece is None else answer(cutter.take, piece)
            self.assertEqual(heard, expected, (rules, pieces, come))
            told = len(sure)

    def test_what_is_told_behind_each_piece(self):
        maker = SmallMaker(random.Random(31))
        for _ in range(250):
            rules = maker.rules(maker.chance.randint(1, 4))
            model = Model(rules, "\nabc")
            for _ in range(6):
                text = "".join(maker.chance.choice("aaabbbc\n") for _ in range(maker.chance.randint(0, 7)))
                self.check(model, rules, self.pieces(maker.chance, text))
                self.check(model, rules, list(text))

    def heard_in_all(self, lexer, pieces):
        """All tokens that are told of the pieces, and the place of NoToken or None."""
        cutter = Cutter(lexer)
        answers = [answer(cutter.take, piece) for piece in pieces] + [answer(cutter.end), answer(cutter.end)]
        told = [pair for heard in answers if isinstance(heard, list) for pair in heard]
        return told, answers[-1] if isinstance(answers[-1], int) else None

    def test_however_a_text_is_cut_the_tokens_are_the_same(self):
        maker = SmallMaker(random.Random(32))
        for _ in range(200):
            rules = maker.rules(maker.chance.randint(2, 24))
            text = "".join(maker.chance.choice("aaabbbc\n") for _ in range(maker.chance.randint(0, 20)))
            expected = all_tokens([read(rule) for rule in rules], text)
            for pieces in (list(text), [text], self.pieces(maker.chance, text)):
                self.assertEqual(self.heard_in_all(Lexer(rules), pieces), expected, (rules, pieces))


class NothingKeptTest(unittest.TestCase):
    """[0.1]"""

    def test_cutters_of_one_lexer_do_not_meet(self):
        lexer = Lexer(["a+", "b"])
        one, other = Cutter(lexer), Cutter(lexer)
        self.assertEqual(one.take("aa"), [])
        self.assertEqual(other.take("b"), [(1, "b")])
        self.assertEqual(one.take("c"), [(0, "aa")])
        self.assertEqual(answer(one.take, ""), 2)
        self.assertEqual(other.take("a"), [])
        self.assertEqual(other.end(), [(0, "a")])
        self.assertEqual(lexer.tokens("aab"), [(0, "aa"), (1, "b")])
        self.assertEqual(Cutter(lexer).take("b"), [(1, "b")])

    def test_rules_changed_later_change_nothing(self):
        rules = ["a+", "b"]
        cutter = Cutter(Lexer(rules))
        rules[1] = "c"
        self.assertEqual(cutter.take("aab"), [(0, "aa"), (1, "b")])

    def test_lists_are_new_each_time(self):
        cutter = Cutter(Lexer(["a"]))
        for _ in range(3):
            told = cutter.take("a")
            self.assertEqual(told, [(0, "a")])
            told.append("more")
        for _ in range(3):
            told = cutter.end()
            self.assertEqual(told, [])
            told.append("more")


if __name__ == "__main__":
    unittest.main()
