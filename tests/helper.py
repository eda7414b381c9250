"""What several tests need: trees in short, the fault that read tells, rules made at random with
their trees, a second way to find a fault's place, and the tokens straight from what the rules take."""

import itertools

from tokenwright.errors import BadRule, TokenError
from tokenwright.reading import read

ALL = "\n" + "".join(chr(number) for number in range(32, 127) if number != 37)
DOT = ALL[1:]
MARKED_OUTSIDE = ".|()[]*+?\\"
MARKED_WITHIN = "]-\\"
MAY_BE_MARKED = ".|()[]*+?\\-^\n"


def one(signs):
    return ("one", signs)


def row(*trees):
    return ("row", trees)


def either(*trees):
    return ("or", trees)


def star(tree):
    return ("star", tree)


def plus(tree):
    return ("plus", tree)


def maybe(tree):
    return ("maybe", tree)


def signs_of(text):
    """The signs that a rule of one place takes."""
    kind, signs = read(text)
    assert kind == "one", kind
    return signs


def fault(text):
    """The rule and the place of the refusal, or None where the text is a rule."""
    try:
        read(text)
    except BadRule as refusal:
        return (refusal.rule, refusal.at)
    return None


def places_of(tree):
    """How many places the tree has."""
    kind, inner = tree
    if kind == "one":
        return 1
    if kind in ("row", "or"):
        return sum(places_of(part) for part in inner)
    return places_of(inner)


def refusal(call, *given):
    """The class and the values of the refusal, or None where there is none."""
    try:
        call(*given)
    except TokenError as told:
        return (type(told).__name__,) + tuple(getattr(told, name) for name in ("rule", "at") if hasattr(told, name))
    return None


def ends(tree, text, at):
    """The places at which what the tree takes of the text from a place on may end."""
    kind, inner = tree
    if kind == "one":
        return {at + 1} if at < len(text) and text[at] in inner else set()
    if kind == "or":
        return set().union(*[ends(part, text, at) for part in inner])
    if kind == "row":
        reached = {at}
        for part in inner:
            reached = set().union(*[ends(part, text, place) for place in reached])
        return reached
    once = ends(inner, text, at)
    if kind == "maybe":
        return once | {at}
    reached, fresh = set(), once
    while fresh:
        reached |= fresh
        fresh = set().union(*[ends(inner, text, place) for place in fresh]) - reached
    return reached | {at} if kind == "star" else reached


def takes(tree, text):
    return len(text) in ends(tree, text, 0)


def first_taken(trees, text):
    """The first rule that takes the text, or None."""
    return next((number for number, tree in enumerate(trees) if takes(tree, text)), None)


def token_at(trees, text, at):
    """The token at a place, as [2.2] says it, or None."""
    sizes = [end - at for tree in trees for end in ends(tree, text, at) if end > at]
    if not sizes:
        return None
    return (first_taken(trees, text[at:at + max(sizes)]), max(sizes))


def all_tokens(trees, text):
    """The tokens, and the place of NoToken or None."""
    told, at = [], 0
    while at < len(text):
        found = token_at(trees, text, at)
        if found is None:
            return told, at
        told.append((found[0], text[at:at + found[1]]))
        at += found[1]
    return told, None


def texts_up_to(signs, size):
    """All texts of these signs up to a size: the shorter first, then sign by sign."""
    ordered = sorted(signs, key=ALL.index)
    return ["".join(row) for length in range(size + 1) for row in itertools.product(ordered, repeat=length)]


class Walk:
    """A text walked sign by sign, with what may come next: a way to a fault's place that shares
    nothing with the program's own."""

    def __init__(self, text):
        self.text = text
        self.depth = 0
        self.state = "atom"
        self.first = None
        self.second_at = None
        self.fault = None

    def run(self):
        for at, sign in enumerate(self.text):
            self.fault = at
            if sign not in ALL or not getattr(self, "in_" + self.state)(at, sign):
                return self.fault
        self.fault = None
        if self.state != "behind" or self.depth > 0:
            return len(self.text)
        return None

    def to(self, state):
        self.state = state
        return True

    def in_atom(self, at, sign):
        if sign == "(":
            self.depth += 1
            return self.depth <= 6 and self.to("atom")
        if sign == "[":
            return self.to("opened")
        if sign == "\\":
            return self.to("marked")
        return sign not in "|)]*+?" and self.to("behind")

    def in_behind(self, at, sign):
        if sign == "|":
            return self.to("atom")
        if sign == ")":
            self.depth -= 1
            return self.depth >= 0
        return sign in "*+?" or self.in_atom(at, sign)

    def in_marked(self, at, sign):
        return sign in ".|()[]*+?\\-^n" and self.to("behind")

    def in_opened(self, at, sign):
        return self.to("item") if sign == "^" else self.in_item(at, sign)

    def in_item(self, at, sign):
        if sign == "\\":
            return self.to("marked_item")
        self.first = sign
        return sign not in "]-" and self.to("single")

    def in_marked_item(self, at, sign):
        self.first = "\n" if sign == "n" else sign
        return sign in ".|()[]*+?\\-^n" and self.to("single")

    def in_single(self, at, sign):
        return self.to("second") if sign == "-" else self.in_closable(at, sign)

    def in_closable(self, at, sign):
        return self.to("behind") if sign == "]" else self.in_item(at, sign)

    def in_second(self, at, sign):
        self.second_at = at
        if sign == "\\":
            return self.to("marked_second")
        return sign not in "]-" and self.ends_item(sign)

    def in_marked_second(self, at, sign):
        return sign in ".|()[]*+?\\-^n" and self.ends_item("\n" if sign == "n" else sign)

    def ends_item(self, sign):
        if ALL.index(sign) < ALL.index(self.first):
            self.fault = self.second_at
            return False
        return self.to("closable")


def walked_fault(text):
    return Walk(text).run()


class Maker:
    """Rules made at random, each in one of the ways in which its tree can be written."""

    def __init__(self, chance):
        self.chance = chance

    def sign(self, sign, marked):
        if sign in marked or (sign in MAY_BE_MARKED and self.chance.random() < 0.3):
            return "\\n" if sign == "\n" else "\\" + sign
        return sign

    def item(self):
        first = self.chance.choice(ALL)
        if self.chance.random() < 0.5:
            return (self.sign(first, MARKED_WITHIN), first)
        size = self.chance.choice((0, 1, 2, 3, 5, 30, 94))
        taken = ALL[ALL.index(first):][:size + 1]
        return (self.sign(first, MARKED_WITHIN) + "-" + self.sign(taken[-1], MARKED_WITHIN), taken)

    def sign_class(self):
        turned = self.chance.random() < 0.4
        items = [self.item() for _ in range(self.chance.randint(1, 4))]
        text = "".join(written for written, _ in items)
        if not turned and text.startswith("^"):
            text = "\\" + text
        taken = "".join(signs for _, signs in items)
        signs = "".join(sign for sign in ALL if (sign in taken) != turned)
        return ("[^" if turned else "[") + text + "]", one(signs)

    def place(self):
        which = self.chance.random()
        if which < 0.1:
            return ".", one(DOT)
        if which < 0.5:
            return self.sign_class()
        sign = self.chance.choice(ALL)
        return self.sign(sign, MARKED_OUTSIDE), one(sign)

    def atom(self, deep):
        if deep == 0 or self.chance.random() < 0.6:
            return self.place()
        text, tree = self.choice(deep - 1)
        return "(" + text + ")", tree

    def repeat(self, deep):
        text, tree = self.atom(deep)
        while self.chance.random() < 0.3:
            mark, kind = self.chance.choice((("*", "star"), ("+", "plus"), ("?", "maybe")))
            text, tree = text + mark, (kind, tree)
        return text, tree

    def several(self, kind, between, make):
        parts = [make() for _ in range(self.chance.choice((1, 1, 1, 2, 2, 3)))]
        trees = tuple(tree for _, tree in parts)
        text = between.join(written for written, _ in parts)
        return text, trees[0] if len(trees) == 1 else (kind, trees)

    def row(self, deep):
        return self.several("row", "", lambda: self.repeat(deep))

    def choice(self, deep):
        return self.several("or", "|", lambda: self.row(deep))


class SmallMaker:
    """Rows of rules made at random, of few signs and places, none of which takes the empty text."""

    PLACES = ("a", "a", "b", "b", "c", "[ab]", "[^a]", ".", "\\n", "[b-d]", "[^\n-~]")

    def __init__(self, chance):
        self.chance = chance

    def rule(self, places):
        if places == 1:
            text = self.chance.choice(self.PLACES)
        else:
            ahead = self.chance.randint(1, places - 1)
            between = self.chance.choice(("", "", "|"))
            text = "(" + self.rule(ahead) + between + self.rule(places - ahead) + ")"
        return text + self.chance.choice(("", "", "", "*", "+", "?", "?+"))

    def rules(self, places):
        """A row of rules with that many places in all."""
        made = []
        while places > 0:
            count = self.chance.randint(1, places)
            text = self.rule(count)
            if fault(text) is None and not takes(read(text), ""):
                made.append(text)
                places -= count
        return made if len(made) <= 6 else self.rules(sum(places_of(read(text)) for text in made))
