"""The places of a row of rules: what each takes, which may come behind it, and which rules may end with it."""

from tokenwright.errors import BadRule, TakesNothing, TooMany
from tokenwright.reading import read
from tokenwright.signs import SIGNS

MOST_RULES = 6

# Several places together are one whole number, with a bit for each of them. Bit 0 is no place of
# a rule: it stands ahead of them all, so that the beginning of a text is held like any place.
AHEAD = 1


def places_of(rules, most):
    layout = Layout()
    for number, rule in enumerate(rules[:MOST_RULES]):
        part = layout.lay(tree_of(rule, number))
        if part.empty:
            raise TakesNothing(number)
        if layout.how_many() > most:
            raise TooMany(number)
        layout.close_rule(part)
    if len(rules) > MOST_RULES:
        raise TooMany(MOST_RULES)
    return Places(layout)


def tree_of(rule, number):
    try:
        return read(rule)
    except BadRule as fault:
        raise BadRule(number, fault.at) from None


def members(bits):
    return [place for place in range(bits.bit_length()) if bits >> place & 1]


# A stretch of a rule: whether it takes the empty text, and the places that it may begin and end with.
class Part:
    def __init__(self, empty, firsts, lasts):
        self.empty = empty
        self.firsts = firsts
        self.lasts = lasts


def one_behind_other(one, other):
    firsts = one.firsts | other.firsts if one.empty else one.firsts
    lasts = one.lasts | other.lasts if other.empty else other.lasts
    return Part(one.empty and other.empty, firsts, lasts)


def one_or_other(one, other):
    return Part(one.empty or other.empty, one.firsts | other.firsts, one.lasts | other.lasts)


# Trees are laid out place by place, each place with the next number.
class Layout:
    def __init__(self):
        self.signs = [""]
        self.behind = [0]
        self.ends = []

    def how_many(self):
        return len(self.signs) - 1

    def close_rule(self, part):
        self.behind[0] |= part.firsts
        self.ends.append(part.lasts)

    def link(self, lasts, firsts):
        for place in members(lasts):
            self.behind[place] |= firsts

    def lay(self, tree):
        if tree[0] == "one":
            return self.lay_place(tree[1])
        if tree[0] == "row":
            return self.lay_row(tree[1])
        if tree[0] == "or":
            return self.lay_choice(tree[1])
        return self.lay_repeat(tree)

    def lay_place(self, signs):
        place = 1 << len(self.signs)
        self.signs.append(signs)
        self.behind.append(0)
        return Part(False, place, place)

    def lay_row(self, trees):
        whole = Part(True, 0, 0)
        for tree in trees:
            part = self.lay(tree)
            self.link(whole.lasts, part.firsts)
            whole = one_behind_other(whole, part)
        return whole

    def lay_choice(self, trees):
        whole = Part(False, 0, 0)
        for tree in trees:
            whole = one_or_other(whole, self.lay(tree))
        return whole

    def lay_repeat(self, tree):
        # A loop, since a rule may have as many marks one behind the other as it has signs.
        marks = []
        inner = tree
        while inner[0] in ("star", "plus", "maybe"):
            marks.append(inner[0])
            inner = inner[1]
        part = self.lay(inner)
        if "star" in marks or "plus" in marks:
            self.link(part.lasts, part.firsts)
        empty = part.empty or "star" in marks or "maybe" in marks
        return Part(empty, part.firsts, part.lasts)


# The places from which a rule's end can be come to. Others are never held, so that where
# some place may come next, some text that goes on so is taken.
def useful_places(layout):
    takes_some = sum([1 << place for place, signs in enumerate(layout.signs) if signs != ""])
    grown = 0
    for lasts in layout.ends:
        grown |= lasts & takes_some
    useful = 0
    while grown != useful:
        useful = grown
        for place in members(takes_some):
            if layout.behind[place] & useful:
                grown |= 1 << place
    return useful


def places_that_take(layout, sign):
    return sum([1 << place for place, signs in enumerate(layout.signs) if sign in signs])


class Places:
    def __init__(self, layout):
        useful = useful_places(layout)
        self.behind = [bits & useful for bits in layout.behind]
        self.ends = list(layout.ends)
        self.takers = dict([(sign, places_that_take(layout, sign)) for sign in SIGNS])

    def beyond(self, held):
        reached = 0
        for place in members(held):
            reached |= self.behind[place]
        return reached

    def first_rule(self, held):
        for number, lasts in enumerate(self.ends):
            if held & lasts:
                return number
        return None
