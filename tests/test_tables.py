"""[3.1], [3.2]: the table, its states, their numbers, that it is the smallest; [0.1] and [0.2] of tables."""

import random
import unittest

from tests.helper import ALL, SmallMaker, first_taken, texts_up_to
from tokenwright.reading import read
from tokenwright.tables import same, table_of

NO_SIGNS = "[^\\n-~]"


def moves(table):
    """For each state its moves, as (signs, state) in the order of the signs."""
    told = []
    for state in range(table.size()):
        found = {}
        for sign in ALL:
            behind = table.goes(state, sign)
            if behind is not None:
                found[behind] = found.get(behind, "") + sign
        told.append([(signs, behind) for behind, signs in found.items()])
    return told


class TableTest(unittest.TestCase):
    def check(self, rules, takes, told):
        table = table_of(rules)
        self.assertEqual(table.size(), len(takes))
        self.assertEqual(table.takes, takes)
        self.assertEqual(moves(table), told)

    def test_one_sign(self):
        self.check(["a"], [None, 0], [[("a", 1)], []])

    def test_one_sign_again_and_again(self):
        self.check(["a+"], [None, 0], [[("a", 1)], [("a", 1)]])

    def test_the_first_rule_is_told(self):
        self.check(["if", "[f-i]+"], [None, 1, 1, 0],
                   [[("fgh", 1), ("i", 2)], [("fghi", 1)], [("f", 3), ("ghi", 1)], [("fghi", 1)]])
        self.check(["a", "a"], [None, 0], [[("a", 1)], []])

    def test_numbers_in_the_order_in_which_states_are_come_to(self):
        self.check(["bx|ay|\\nz"], [None, None, None, None, 0],
                   [[("\n", 1), ("a", 2), ("b", 3)], [("z", 4)], [("y", 4)], [("x", 4)], []])
        self.check(["b", "a", "\\n", " ", "~", "!"], [None, 2, 3, 5, 1, 0, 4],
                   [[("\n", 1), (" ", 2), ("!", 3), ("a", 4), ("b", 5), ("~", 6)], [], [], [], [], [], []])

    def test_from_each_state_in_turn_all_signs_are_gone_through(self):
        self.check(["ac|bd", "ad|bc"], [None, None, None, 0, 1],
                   [[("a", 1), ("b", 2)], [("c", 3), ("d", 4)], [("c", 4), ("d", 3)], [], []])

    def test_a_way_back_to_the_first_state(self):
        self.check(["(ab)*c"], [None, None, 0], [[("a", 1), ("c", 2)], [("b", 0)], []])

    def test_the_first_state_takes_nothing_and_so_is_not_one_with_another_that_goes_on_alike(self):
        self.check(["(ab)+"], [None, None, 0], [[("a", 1)], [("b", 2)], [("a", 1)]])

    def test_states_that_tell_the_same_are_one(self):
        self.check(["ax|bx"], [None, None, 0], [[("ab", 1)], [("x", 2)], []])
        self.check(["(a|aa)+"], [None, 0], [[("a", 1)], [("a", 1)]])
        self.check(["a(b|c)*|ab*c*"], [None, 0], [[("a", 1)], [("bc", 1)]])

    def test_states_that_tell_another_rule_stay(self):
        self.check(["ax", "bx"], [None, None, None, 0, 1],
                   [[("a", 1), ("b", 2)], [("x", 3)], [("x", 4)], [], []])

    def test_what_a_rule_ahead_takes_makes_no_state(self):
        self.check(["[ab]+", "ab"], [None, 0], [[("ab", 1)], [("ab", 1)]])

    def test_no_state_from_which_nothing_is_come_to(self):
        self.check(["a|b" + NO_SIGNS], [None, 0], [[("a", 1)], []])
        self.check(["a(b" + NO_SIGNS + ")*"], [None, 0], [[("a", 1)], []])
        self.check(["ab" + NO_SIGNS + "c|d"], [None, 0], [[("d", 1)], []])

    def test_rules_that_take_no_text_at_all(self):
        for rules in ([], [NO_SIGNS], [NO_SIGNS + "+", "a" + NO_SIGNS], ["a+" + NO_SIGNS + "b*"]):
            self.check(rules, [None], [[]])

    def test_one_rule_of_several_takes_no_text(self):
        self.check(["a" + NO_SIGNS, "a"], [None, 1], [[("a", 1)], []])

    def test_all_signs(self):
        self.check(["[\\n-~]"], [None, 0], [[(ALL, 1)], []])
        self.check([".", "\\n"], [None, 1, 0], [[("\n", 1), (ALL[1:], 2)], [], []])

    def test_ten_places(self):
        self.check(["abcde", "fghij"], [None] * 9 + [0, 1],
                   [[("a", 1), ("f", 2)], [("b", 3)], [("g", 4)], [("c", 5)], [("h", 6)], [("d", 7)], [("i", 8)],
                    [("e", 9)], [("j", 10)], [], []])

    def test_many_states(self):
        self.assertEqual(table_of(["[ab]*a" + "[ab]" * 8]).size(), 512)
        self.assertEqual(table_of(["(aa)+|(aaa)+|(aaaaa)+"]).size(), 31)
        self.assertEqual(table_of(["([^a][^b][^c]|[^b][^c][^d])*..[^a]e"]).takes[0], None)

    def test_first(self):
        table = table_of(["if", "[a-z]+", "[0-9]+"])
        for text, told in (("if", 0), ("i", 1), ("iff", 1), ("x", 1), ("42", 2), ("4x", None), ("", None),
                           ("if ", None), (" if", None), ("\n", None), ("a" * 300, 1), ("a" * 299 + "\n", None)):
            self.assertEqual(table.first(text), told, text)

    def test_goes(self):
        table = table_of(["ab"])
        self.assertEqual(table.goes(0, "a"), 1)
        self.assertEqual(table.goes(1, "b"), 2)
        for state, sign in ((0, "b"), (0, "\n"), (1, "a"), (2, "a"), (2, "b"), (2, "~")):
            self.assertIsNone(table.goes(state, sign))

    def test_kinds(self):
        table = table_of(["a+", "b"])
        self.assertIs(type(table.takes), list)
        self.assertEqual([type(told) for told in table.takes], [type(None), int, int])
        self.assertIs(type(table.size()), int)
        self.assertIs(type(table.goes(0, "a")), int)
        self.assertIs(type(table.first("a")), int)


class SameTest(unittest.TestCase):
    SAME = (
        (["a+"], ["aa*"]), (["a+"], ["a+", "aa"]), (["(a|b)+"], ["[ab][ba]*"]), (["a|b"], ["b|a"]),
        (["(ab)*c"], ["c|(ab)+c"]), (["."], ["[^\n]"]), (["a", "a|b"], ["a", "b"]), ([], [NO_SIGNS]),
        ([], ["a" + NO_SIGNS]), (["a", NO_SIGNS], ["a"]), (["a?b"], ["ab|b"]), (["(aa)+|a(aa)*"], ["a+"]),
        (["\\n"], ["\n"]), (["a+?b"], ["a*b"]), (["if", "[a-z]+"], ["if", "[a-z]|[a-z][a-z]+"]),
    )
    OTHERS = (
        (["a"], ["b"]), (["a"], ["a+"]), (["a", "b"], ["b", "a"]), (["a"], []), (["a", "b"], ["a|b"]),
        (["a"], [NO_SIGNS, "a"]), (["."], ["[\\n-~]"]), (["(aa)+"], ["(aaaa)+"]), (["ab"], ["ba"]),
        (["[a-z]+", "if"], ["if", "[a-z]+"]), (["a|b", "c"], ["a|c", "b"]), (["[a-y]"], ["[a-z]"]),
        (["aaaaaaaaaa"], ["aaaaaaaaa"]), (["abc"], ["abd"]),
    )

    def test_rules_written_otherwise_that_take_the_same(self):
        for one, other in self.SAME:
            self.assertIs(same(table_of(one), table_of(other)), True, (one, other))
            self.assertIs(same(table_of(other), table_of(one)), True, (one, other))

    def test_rules_that_do_not(self):
        for one, other in self.OTHERS:
            self.assertIs(same(table_of(one), table_of(other)), False, (one, other))
            self.assertIs(same(table_of(other), table_of(one)), False, (one, other))

    def test_a_table_is_the_same_as_itself(self):
        table = table_of(["a+", "b"])
        self.assertIs(same(table, table), True)


class BruteForceTest(unittest.TestCase):
    # Here `e` stands for all signs that no rule names.
    TEXTS = texts_up_to("\nabcde", 4)

    def rows(self, seed, count, most):
        maker = SmallMaker(random.Random(seed))
        return [maker.rules(maker.chance.randint(1, most)) for _ in range(count)]

    def test_the_first_rule_of_every_text(self):
        for rules in self.rows(41, 120, 10):
            table, trees = table_of(rules), [read(rule) for rule in rules]
            for text in self.TEXTS + ["aabbaabbc", "ababababab", "bbbbbbb", "a" * 9, " ", "~", "a~"]:
                self.assertEqual(table.first(text), first_taken(trees, text), (rules, text))

    def test_the_states(self):
        for rules in self.rows(42, 1500, 10):
            table = table_of(rules)
            self.assertEqual(len(table.takes), table.size())
            self.assertIsNone(table.takes[0])
            self.assertEqual(self.order(table), list(range(table.size())), rules)
            self.assertEqual(self.alive(table) | {0}, set(range(table.size())), rules)
            self.assertEqual(self.pairs_apart(table), table.size() * (table.size() - 1) // 2, rules)

    def order(self, table):
        """The states as they are come to."""
        found = [0]
        for state in found:
            for sign in ALL:
                behind = table.goes(state, sign)
                if behind is not None and behind not in found:
                    found.append(behind)
        return found

    def alive(self, table):
        """The states from which something that is taken is come to."""
        found = {state for state in range(table.size()) if table.takes[state] is not None}
        while True:
            more = {state for state in range(table.size()) if any(table.goes(state, sign) in found for sign in ALL)}
            if more <= found:
                return found
            found |= more

    def pairs_apart(self, table):
        """How many pairs of states tell another thing of some text."""
        signs = "\n abcde"
        states = [None] + list(range(table.size()))
        step = {(state, sign): None if state is None else table.goes(state, sign) for state in states for sign in signs}
        told = {state: None if state is None else table.takes[state] for state in states}
        pairs = {(one, other) for one in states for other in states}
        apart = {(one, other) for one, other in pairs if told[one] != told[other]}
        while True:
            more = {(one, other) for one, other in pairs - apart
                    if any((step[one, sign], step[other, sign]) in apart for sign in signs)}
            if not more:
                return len([1 for one, other in apart if None not in (one, other)]) // 2
            apart |= more

    def test_the_same_table_just_where_the_same_is_told(self):
        rows = self.rows(43, 250, 4)
        told = {}
        for rules in rows:
            trees = [read(rule) for rule in rules]
            # Tables of so few states differ on texts of few signs.
            firsts = tuple(first_taken(trees, text) for text in self.TEXTS + texts_up_to("ab", 9)[63:])
            told.setdefault(firsts, []).append(rules)
        tables = [table_of(alike[0]) for alike in told.values()]
        for alike, table in zip(told.values(), tables):
            for rules in alike:
                self.assertTrue(same(table_of(rules), table), (rules, alike[0]))
        for at, table in enumerate(tables):
            self.assertEqual([same(table, other) for other in tables].index(True), at)
            self.assertEqual([same(table, other) for other in tables].count(True), 1)
        self.assertLess(len(told), len(rows))


class NothingKeptTest(unittest.TestCase):
    """[0.1]"""

    def test_the_rules_are_not_changed_and_not_kept(self):
        rules = ["a+", "b"]
        table = table_of(rules)
        self.assertEqual(rules, ["a+", "b"])
        rules[0] = "c"
        rules.append("d")
        self.assertEqual((table.first("aa"), table.first("c"), table.size()), (0, None, 3))

    def test_the_list_of_what_the_states_tell_is_the_caller_s(self):
        table = table_of(["a", "b"])
        table.takes[1] = 5
        table.takes.append(6)
        self.assertEqual((table.first("a"), table.size()), (0, 3))
        self.assertEqual(table_of(["a", "b"]).takes, [None, 0, 1])
        self.assertTrue(same(table, table_of(["a", "b"])))


if __name__ == "__main__":
    unittest.main()
