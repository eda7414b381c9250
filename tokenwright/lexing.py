"""Texts cut into tokens: whole, or as they come in pieces."""

from tokenwright.errors import NoToken
from tokenwright.places import AHEAD, places_of

MOST_PLACES = 24


# The way from the beginning of a token on: the places that may come next, how many signs were
# passed, and the longest token so far. It is gone on with when more of the text has come.
class Walk:
    def __init__(self, places):
        self.places = places
        self.reach = places.beyond(AHEAD)
        self.passed = 0
        self.found = None

    def may_go_on(self):
        return self.reach != 0

    def along(self, text):
        while self.may_go_on() and self.passed < len(text):
            self.step(text[self.passed])

    def step(self, sign):
        held = self.reach & self.places.takers.get(sign, 0)
        self.reach = self.places.beyond(held)
        self.passed += 1
        rule = self.places.first_rule(held)
        if rule is not None:
            self.found = (rule, self.passed)


class Lexer:
    def __init__(self, rules):
        self.places = places_of(rules, MOST_PLACES)

    def token(self, text, at):
        walk = Walk(self.places)
        walk.along(text[at:])
        return walk.found

    def tokens(self, text):
        told = []
        at = 0
        while at < len(text):
            found = self.token(text, at)
            if found is None:
                raise NoToken(at)
            told.append((found[0], text[at:at + found[1]]))
            at += found[1]
        return told


# What is told is forgotten: `rest` is what has come from the first token on that is not told,
# `at` its place in the whole text, and `walk` the way along it.
class Cutter:
    def __init__(self, lexer):
        self.places = lexer.places
        self.at = 0
        self.rest = ""
        self.walk = Walk(self.places)

    def take(self, piece):
        self.rest += piece
        return self.sure_tokens(False)

    def end(self):
        return self.sure_tokens(True)

    def sure_tokens(self, ended):
        told = []
        while self.next_is_sure(ended) and self.walk.found is not None:
            size = self.walk.found[1]
            told.append((self.walk.found[0], self.rest[:size]))
            self.pass_over(size)
        # Nothing that comes later makes a token here, so each later call comes to this as well.
        if told == [] and self.next_is_sure(ended):
            raise NoToken(self.at)
        return told

    def next_is_sure(self, ended):
        self.walk.along(self.rest)
        return self.rest != "" and (ended or not self.walk.may_go_on())

    def pass_over(self, size):
        self.at += size
        self.rest = self.rest[size:]
        self.walk = Walk(self.places)
