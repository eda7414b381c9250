"""Rules read: the tree of a rule's text, or the place of the fault in it."""

from tokenwright.errors import BadRule
from tokenwright.signs import MARKED_OUTSIDE, MARKED_WITHIN, all_but, in_order, is_ahead, stretch

DEEPEST = 6
REPEATS = {"*": "star", "+": "plus", "?": "maybe"}
BEHIND_BACKSLASH = ".|()[]*+?\\-^n"


def read(text):
    reader = Reader(text)
    tree = reader.choice()
    # A choice ends at the text's end or at a bracket; out here that bracket closes nothing.
    if reader.at < len(text):
        raise BadRule(0, reader.at)
    return tree


def joined(kind, trees):
    return trees[0] if len(trees) == 1 else (kind, tuple(trees))


# Each method reads one thing of the grammar from the place `at` on and leaves `at` behind it.
# A place is passed only when its sign may stand there, so `at` is the fault's place at a refusal.
class Reader:
    def __init__(self, text):
        self.text = text
        self.at = 0
        self.depth = 0

    def sees(self, signs):
        return self.at < len(self.text) and self.text[self.at] in signs

    def passes(self, signs):
        if not self.sees(signs):
            raise BadRule(0, self.at)
        self.at += 1
        return self.text[self.at - 1]

    def choice(self):
        trees = [self.row()]
        while self.sees("|"):
            self.passes("|")
            trees.append(self.row())
        return joined("or", trees)

    def row(self):
        trees = [self.repeat()]
        while self.at < len(self.text) and not self.sees("|)"):
            trees.append(self.repeat())
        return joined("row", trees)

    def repeat(self):
        tree = self.atom()
        while self.sees("*+?"):
            tree = (REPEATS[self.passes("*+?")], tree)
        return tree

    def atom(self):
        if self.sees("("):
            return self.bracket()
        if self.sees("["):
            return ("one", self.sign_class())
        if self.sees("."):
            self.passes(".")
            return ("one", all_but("\n"))
        return ("one", self.written_sign(MARKED_OUTSIDE))

    def bracket(self):
        if self.depth == DEEPEST:
            raise BadRule(0, self.at)
        self.passes("(")
        self.depth += 1
        tree = self.choice()
        self.passes(")")
        self.depth -= 1
        return tree

    def sign_class(self):
        self.passes("[")
        turned = self.sees("^")
        if turned:
            self.passes("^")
        taken = self.item()
        while not self.sees("]"):
            taken += self.item()
        self.passes("]")
        return all_but(taken) if turned else in_order(taken)

    def item(self):
        first = self.written_sign(MARKED_WITHIN)
        if not self.sees("-"):
            return first
        self.passes("-")
        second_at = self.at
        second = self.written_sign(MARKED_WITHIN)
        if is_ahead(second, first):
            raise BadRule(0, second_at)
        return stretch(first, second)

    def written_sign(self, marked):
        if not self.sees("\\"):
            return self.passes(all_but(marked))
        self.passes("\\")
        sign = self.passes(BEHIND_BACKSLASH)
        return "\n" if sign == "n" else sign
