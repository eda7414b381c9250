"""[4.1], [4.2]: the difference of two rows of rules, samples, unused rules; [0.1] of them."""

import random
import unittest

from tests.helper import ALL, SmallMaker, first_taken, texts_up_to
from tokenwright.comparing import difference, samples, unused
from tokenwright.reading import read
from tokenwright.tables import same, table_of

NO_SIGNS = "[^\\n-~]"

DIFFERENCES = (
    (["a"], ["a"], None), (["a+"], ["aa*"], None), ([], [], None), ([], [NO_SIGNS], None),
    (["a", "a|b"], ["a", "b"], None), (["a+", "aa"], ["a+"], None), (["[ab]+"], ["(a|b)(a|b)*"], None),
    # The shortest text.
    (["a"], ["b"], "a"), (["a+"], ["a"], "aa"), (["aab"], ["aac"], "aab"), (["(aa)+"], ["(aaaa)+"], "aa"),
    (["b", "aa"], ["aa"], "b"), (["aaaaaaaaaa"], ["aaaaaaaaa"], "aaaaaaaaa"), (["(aa)+|(aaa)+"], ["a+"], "a"),
    (["aa|(aaa)+"], ["(aaa)+|aa|aaaaa"], "aaaaa"), (["zz|a"], ["aaa|a"], "zz"),
    # Of several such the first in the order of the signs.
    (["b|c"], ["c|d"], "b"), (["."], ["[\\n-~]"], "\n"), (["[\\n-~]"], ["a"], "\n"), (["."], ["a"], " "),
    (["[ab][ab]"], ["aa"], "ab"), (["[ab][ab]"], ["b[ab]"], "aa"), (["~|\\n"], ["a"], "\n"), (["~"], ["}"], "}"),
    (["[$-(]"], ["[#-(]"], "#"), (["x[^a]"], ["xa"], "x\n"), (["x."], ["xa"], "x "), (["a[b\\n]"], ["ab"], "a\n"),
    (["ba|ab"], ["c"], "c"), (["ba|ab"], ["bb"], "ab"), (["bz|ba"], ["cc"], "ba"), (["a~|b "], ["c"], "c"),
    (["a~|b "], ["cc"], "a~"),
    # Another rule of the same text.
    (["a", "b"], ["b", "a"], "a"), (["if", "[a-z]+"], ["[a-z]+", "if"], "a"), (["a", "b+"], ["a", "b", "b+"], "bb"),
    (["a|b", "bb"], ["a", "b|bb"], "b"), (["if", "[a-z]+"], [NO_SIGNS, "[a-z]+"], "if"),
    # Rows of another number of rules.
    (["a", "b"], ["a"], "b"), (["a"], [], "a"), (["a"], [NO_SIGNS, "a"], "a"), (["a", NO_SIGNS], ["a"], None),
    (["a", "b", "c", "d", "e", "f"], ["a", "b", "c", "d", "e"], "f"),
    # States alike for long.
    (["[ab]*a[ab][ab][ab]"], ["[ab]*a[ab][ab]"], "aaa"), (["(aaaaa)+"], ["aaaaa|a(aaaa)+"], "a" * 9),
    (["a*b"], ["aaaaaaaab|b"], "ab"), (["(aaa)+b"], ["(aaa)*aaab"], None),
)


class DifferenceTest(unittest.TestCase):
    def test_each_kind(self):
        for one, other, told in DIFFERENCES:
            self.assertEqual(difference(one, other), told, (one, other))

    def test_the_same_both_ways(self):
        for one, other, told in DIFFERENCES:
            self.assertEqual(difference(other, one), told, (one, other))

    def test_a_long_text(self):
        self.assertEqual(difference(["(" + "a" * 10 + ")+"], ["a" * 10]), "a" * 20)
        self.assertEqual(difference(["(" + "b" * 5 + ")+"], ["(" + "b" * 5 + ")?" + "b" * 5]), "b" * 15)
        self.assertEqual(difference(["(aa)+|(aaa)+|a"], ["(aa)+|(aaa)+|a|aa"]), None)
        self.assertEqual(difference(["(aa)+|(aaa)+|a"], ["a(aaaaaa)*|aa+"]), "aaaaa")

    def test_many_states(self):
        ends = "[a-d]" * 8
        self.assertEqual(difference(["[a-d]*[ab]" + ends], ["[a-d]*[ac]" + ends]), "b" + "a" * 8)

    def test_kinds(self):
        self.assertIs(type(difference(["a"], ["b"])), str)


class SamplesTest(unittest.TestCase):
    def check(self, rules, told):
        self.assertEqual(samples(rules), told)
        self.assertEqual(unused(rules), [number for number, text in enumerate(told) if text is None])

    def test_the_shortest_text(self):
        self.check(["a+", "[0-9]+", "xy*z"], ["a", "0", "xz"])
        self.check(["aaa|bb"], ["bb"])

    def test_of_several_such_the_first_in_the_order_of_the_signs(self):
        self.check(["[^x]", "x[\\]-b]", "xx|yx|x\\n"], ["\n", "x]", "x\n"])
        self.check(["."], [" "])
        self.check(["ba|ab|bb"], ["ab"])
        self.check(["b|a"], ["a"])
        self.check(["a~|b "], ["a~"])

    def test_texts_of_rules_ahead_are_left_out(self):
        self.check(["if", "[a-z]+"], ["if", "a"])
        self.check(["a", "a+"], ["a", "aa"])
        self.check(["[a-y]", "[a-z]+"], ["a", "z"])
        self.check(["[a-z]", "[a-z]+"], ["a", "aa"])
        self.check(["a", "b", "[ab]", "[ab]+"], ["a", "b", None, "aa"])
        self.check(["a|aa|aaa", "a+"], ["a", "aaaa"])

    def test_a_rule_that_takes_only_what_a_rule_ahead_takes(self):
        self.check(["[a-z]+", "if"], ["a", None])
        self.check(["a", "a"], ["a", None])

    def test_a_rule_that_takes_only_what_several_rules_ahead_take_together(self):
        self.check(["a", "b+", "a|b"], ["a", "b", None])
        self.check(["(aa)+", "a(aa)*", "a+"], ["aa", "a", None])

    def test_a_rule_that_takes_what_a_rule_behind_takes_is_used(self):
        self.check(["if", "[a-z]+"], ["if", "a"])

    def test_a_rule_that_takes_no_text(self):
        self.check([NO_SIGNS], [None])
        self.check([NO_SIGNS, "a", "b" + NO_SIGNS + "+"], [None, "a", None])

    def test_no_rules(self):
        self.check([], [])

    def test_unused_rules_rising(self):
        self.assertEqual(unused(["a", "a", "b", "a", "b", "[ab]"]), [1, 3, 4, 5])
        self.assertEqual(unused(["a", "b"]), [])

    def test_kinds(self):
        self.assertIs(type(samples(["a"])), list)
        self.assertEqual([type(text) for text in samples(["a", "a"])], [str, type(None)])
        self.assertIs(type(unused(["a"])), list)
        self.assertEqual([type(number) for number in unused(["a", "a"])], [int])


class BruteForceTest(unittest.TestCase):
    # The blank is the first of the signs that no rule names.
    TEXTS = texts_up_to("\n abcd", 4)

    def rows(self, seed, count, most):
        maker = SmallMaker(random.Random(seed))
        return [maker.rules(maker.chance.randint(1, most)) for _ in range(count)]

    def firsts(self, rules):
        trees = [read(rule) for rule in rules]
        return {text: first_taken(trees, text) for text in self.TEXTS}

    def test_samples(self):
        for rules in self.rows(51, 150, 10):
            firsts = self.firsts(rules)
            for number, told in enumerate(samples(rules)):
                known = next((text for text in self.TEXTS if firsts[text] == number), None)
                if known is None and told is not None:
                    self.assertGreater(len(told), 4)
                    self.assertEqual(first_taken([read(rule) for rule in rules], told), number)
                else:
                    self.assertEqual(told, known, rules)

    def test_differences(self):
        rows = self.rows(52, 60, 4) + self.rows(53, 20, 10)
        firsts = [self.firsts(rules) for rules in rows]
        for one, told_one in zip(rows, firsts):
            for other, told_other in zip(rows, firsts):
                known = next((text for text in self.TEXTS if told_one[text] != told_other[text]), None)
                self.check(one, other, known)

    def check(self, one, other, known):
        told = difference(one, other)
        if known is None and told is not None:
            self.assertGreater(len(told), 4)
            self.assertNotEqual(*[first_taken([read(rule) for rule in rules], told) for rules in (one, other)])
        else:
            self.assertEqual(told, known, (one, other))
        self.assertEqual(told is None, same(table_of(one), table_of(other)))

    def test_differences_of_long_texts(self):
        chance = random.Random(54)
        texts = texts_up_to("ab", 10)
        for _ in range(120):
            rows = []
            for _ in range(2):
                tail = "".join(chance.choice(("a", "b", "[ab]", "[ab]")) for _ in range(chance.randint(3, 7)))
                rows.append(["[ab]*" + tail] if chance.random() < 0.5 else ["(" + tail + ")+"])
            trees = [[read(rule) for rule in rules] for rules in rows]
            known = next((text for text in texts if first_taken(trees[0], text) != first_taken(trees[1], text)), None)
            self.assertEqual(difference(*rows), known, rows)


class NothingKeptTest(unittest.TestCase):
    """[0.1]"""

    def test_the_rules_are_not_changed(self):
        one, other = ["a", "[a-c]+"], ["b"]
        difference(one, other)
        samples(one)
        unused(one)
        self.assertEqual((one, other), (["a", "[a-c]+"], ["b"]))

    def test_lists_are_new_each_time(self):
        rules = ["a", "a"]
        samples(rules).clear()
        unused(rules).clear()
        self.assertEqual((samples(rules), unused(rules)), (["a", None], [1]))

    def test_the_same_list_twice(self):
        rules = ["a", "b"]
        self.assertIsNone(difference(rules, rules))

    def test_every_sign_as_a_sample(self):
        for sign in ALL:
            self.assertEqual(samples(["\\" + sign if sign in ".|()[]*+?\\" else sign]), [sign])


if __name__ == "__main__":
    unittest.main()
