"""[1.3]: the fault's place in a text that is no rule."""

import itertools
import random
import unittest

from tests.helper import ALL, Maker, fault, walked_fault
from tokenwright.errors import BadRule, TokenError
from tokenwright.reading import read

FAULTS = (
    # The empty text, and a text that may not end where it ends.
    ("", 0), ("a|", 2), ("a|b|", 4), ("(", 1), ("(a", 2), ("(a|", 3), ("((a)", 4), ("(a)(", 4), ("a*(b+", 5),
    # What can not begin a row.
    ("|", 0), ("|a", 0), ("a||b", 2), ("(|a)", 1), ("(a|)", 3), ("()", 1), ("a()", 2), ("a|)", 2),
    ("*", 0), ("+a", 0), ("?", 0), ("a|*", 2), ("(+a)", 1), ("a(?b)", 2), ("a*|+", 3),
    # A bracket that closes nothing.
    (")", 0), ("a)", 1), ("(a))", 3), ("(a)b)c", 4), ("a*)", 2), ("]", 0), ("a]", 1), ("[a]]", 3), ("(])", 1),
    # A backslash at the end or with a wrong sign.
    ("\\", 1), ("a\\", 2), ("(\\", 2), ("\\a", 1), ("ab\\c", 3), ("\\N", 1), ("\\\n", 1), ("\\ ", 1), ("\\{", 1),
    ("\\\\\\", 3), ("[\\", 2), ("[^\\", 3), ("[\\a]", 2), ("[a\\b]", 3), ("[a-\\", 4), ("[a-\\q]", 4),
    ("[z-\\q]", 4), ("[^A-\\]", 6), ("[^A-\\]]x|", 9),
    # An item whose second sign is ahead of its first.
    ("[b-a]", 3), ("[^b-a]", 4), ("[ab-a]", 4), ("[a-cz-y]", 6), ("[b-\\^]", 3), ("[a-\\n]", 3), ("[ -\n]", 3),
    ("[ -\\n]", 3), ("[^a-\\]", 4), ("[\\]-\\[]", 4), ("[\\--,]", 4), ("[\\--\\,]", 5), ("[~- ]", 3), ("x[b-a]*", 4),
    # Read from the left, it comes ahead of what else is missing.
    ("[b-a", 3), ("[b-\\n", 3), ("([b-a", 4), ("[b-a](", 3), ("[b-\\", 4),
    # A class that is not closed or has no item.
    ("[", 1), ("[^", 2), ("[a", 2), ("[^a", 3), ("[a-", 3), ("[a-z", 4), ("[a\\]", 4), ("([a)", 4),
    ("[]", 1), ("[^]", 2), ("[]a]", 1), ("[^]a]", 2), ("a[]", 2),
    # A minus that parts no two signs.
    ("[-]", 1), ("[-a]", 1), ("[^-a]", 2), ("[^-z]", 2), ("[a-]", 3), ("[a--]", 3), ("[a-b-c]", 4), ("[a-b-]", 4),
    ("[--a]", 1),
    # A bracket too deep.
    ("(((((((", 6), ("(((((((a)))))))", 6), ("((((((a(b)))))))", 7), ("((((((a)))))((a))", 17), ("((((((", 6),
    ("((((((a)|(((((((", 10), ("((((((a))))))(((((((b", 19),
    # Of several faults the first.
    ("a)b]*\\q", 1), ("[b-a]\\q)", 3), ("\\q[b-a]", 1),
)


class FaultsTest(unittest.TestCase):
    def test_each_way_in_which_a_text_is_no_rule(self):
        for text, at in FAULTS:
            with self.subTest(text=text):
                self.assertEqual(fault(text), (0, at))

    def test_the_refusal_is_a_token_error(self):
        with self.assertRaises(TokenError) as told:
            read("(a")
        self.assertIs(type(told.exception), BadRule)
        self.assertIs(type(told.exception.at), int)
        self.assertIs(type(told.exception.rule), int)

    def test_each_pair_of_signs_in_the_wrong_order(self):
        for second, first in itertools.combinations(ALL, 2):
            ahead = "[" + ("\\" + first if first in "]-\\^" else first) + "-"
            text = ahead + ("\\" + second if second in "]-\\" else second) + "]"
            self.assertEqual(fault(text), (0, len(ahead)), text)

    def test_all_short_texts(self):
        for size in range(6):
            for signs in itertools.product("ab^-[]\\n" if size > 4 else "ab^-[]\\n()|*.", repeat=size):
                self.check("".join(signs))

    def test_all_short_classes(self):
        for signs in itertools.product("az^-]\\n", repeat=5):
            self.check("[" + "".join(signs))

    def test_rules_with_a_sign_changed(self):
        chance = random.Random(2)
        maker = Maker(chance)
        for _ in range(6000):
            text, _ = maker.choice(6)
            at = chance.randrange(len(text))
            self.check(text[:at])
            self.check(text[:at] + text[at + 1:])
            self.check(text[:at] + chance.choice("()[]^-|*+?.\\\nn") + text[at:])

    def check(self, text):
        at = walked_fault(text)
        self.assertEqual(fault(text), None if at is None else (0, at), repr(text))


if __name__ == "__main__":
    unittest.main()
