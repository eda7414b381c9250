"""[1.4]: what is written of a tree; [0.1] of written."""

import itertools
import random
import unittest

from tests.helper import ALL, DOT, Maker, either, fault, maybe, one, places_of, plus, row, star
from tokenwright.reading import read
from tokenwright.writing import written

A, B, C = one("a"), one("b"), one("c")


class WritingTest(unittest.TestCase):
    def check(self, tree, size=None):
        """The tree is read again from what is written; size is that of the shortest such rule."""
        text = written(tree)
        self.assertIs(type(text), str)
        self.assertEqual(read(text), tree, repr(text))
        if size is not None:
            self.assertEqual(len(text), size, repr(text))

    def test_each_sign(self):
        for sign in ALL:
            self.check(one(sign), 2 if sign in ".|()[]*+?\\" else 1)

    def test_dot_all_and_none(self):
        self.check(one(DOT), 1)
        self.check(one(ALL), 5)
        self.check(one(""), 6)

    def test_all_but_one_sign(self):
        for sign in ALL[1:]:
            self.check(one(ALL.replace(sign, "")), 5 if sign in "]-\\" else 4)

    def test_every_stretch_and_what_it_leaves(self):
        for first, last in itertools.combinations(range(len(ALL) + 1), 2):
            self.check(one(ALL[first:last]))
            self.check(one(ALL[:first] + ALL[last:]))

    def test_classes_with_a_hat(self):
        self.check(one("^_"), 4)
        self.check(one("^_`"), 5)
        self.check(one("^_`a"), 6)
        self.check(one("^_`abcde"), 6)
        self.check(one("^_`abcdefgz"), 6)
        self.check(one("A^_`abcde"), 6)
        self.check(one("^z"), 4)

    def test_classes_with_signs_that_need_a_backslash(self):
        self.check(one("\\]"), 6)
        self.check(one("\\]^"), 6)
        self.check(one("-]"), 6)
        self.check(one(",-."), 5)
        self.check(one("+,-"), 6)
        self.check(one("-\\]^"), 8)

    def test_rows_choices_and_repeats(self):
        self.check(row(A, B), 2)
        self.check(either(A, B), 3)
        self.check(star(A), 2)
        self.check(plus(star(maybe(A))), 4)
        self.check(star(row(A, B)), 5)
        self.check(maybe(either(A, B)), 6)
        self.check(row(row(A, B), C), 5)
        self.check(row(A, either(B, C)), 6)
        self.check(either(either(A, B), C), 7)
        self.check(either(row(A, B), C), 4)
        self.check(row(star(row(A, B)), plus(C)), 7)
        self.check(star(star(either(A, star(row(B, C))))), 11)

    def test_six_deep(self):
        tree = row(A, B)
        for _ in range(6):
            tree = row(tree, C)
        self.check(tree, 20)
        tree = row(A, B)
        for _ in range(3):
            tree = star(row(either(tree, A), B))
        self.check(tree)

    def test_as_many_marks_as_a_rule_can_have(self):
        self.check(read("a" + "*+?" * 33), 100)
        self.check(read("a" + "*" * 140), 141)

    def test_nothing_handed_in_is_changed_and_the_same_is_told_again(self):
        tree = read("(a|[^b-d])*.|\\n(xy)+")
        before = repr(tree)
        text = written(tree)
        self.assertEqual(repr(tree), before)
        written(one(""))
        self.assertEqual(written(tree), text)


class SizeTest(unittest.TestCase):
    """No rule has its tree in fewer signs, so none of 100 signs is written with more."""

    def check(self, text):
        tree = read(text)
        again = written(tree)
        self.assertEqual(read(again), tree, repr((text, again)))
        self.assertLessEqual(len(again), len(text), repr((text, again)))

    def test_all_short_texts(self):
        for size in range(1, 5):
            for signs in itertools.product("ab^-[]\\n()|*.", repeat=size):
                self.check_if_rule("".join(signs))

    def test_all_short_classes(self):
        for ahead in ("[", "[^"):
            for size in range(1, 5):
                for signs in itertools.product("\n,-.[\\]^_`a~", repeat=size):
                    self.check_if_rule(ahead + "".join(signs) + "]")

    def check_if_rule(self, text):
        if fault(text) is None:
            self.check(text)

    def test_rules_made_at_random(self):
        maker = Maker(random.Random(3))
        for _ in range(3000):
            self.check(maker.choice(6)[0])

    def test_up_to_eight_places_and_a_hundred_signs(self):
        maker = Maker(random.Random(4))
        seen = 0
        while seen < 300:
            text, tree = maker.choice(6)
            if places_of(tree) > 8 or len(text) > 100:
                continue
            seen += 1
            text += ("?+*" * 33)[:100 - len(text)]
            self.check(text)
            self.assertLessEqual(len(written(read(text))), 100)

    def test_a_hundred_signs_to_the_last(self):
        for text in (
            "\n*" * 7 + "\n",
            "[ac][^ac][ceg][^ceg][acegi][^acegi][acegikmoqsuwy024][^acegikmoqsuwy0246]",
            "[^\n-~]|[\n-~]|[!#&-(]|[^ !$]|\\]|[\\]\\-A]|[^^\\]]|.*",
            "[\\^-z][^^-_][\\]-~][+-\\-]",
        ):
            text += "+" * (100 - len(text))
            self.check(text)
            self.assertLessEqual(len(written(read(text))), 100)


if __name__ == "__main__":
    unittest.main()
