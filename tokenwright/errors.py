"""The refusals of the program, each with the values that tell where the fault lies."""


class TokenError(ValueError):
    pass


class BadRule(TokenError):
    def __init__(self, rule, at):
        self.rule = rule
        self.at = at


class TakesNothing(TokenError):
    def __init__(self, rule):
        self.rule = rule


class TooMany(TokenError):
    def __init__(self, rule):
        self.rule = rule


class NoToken(TokenError):
    def __init__(self, at):
        self.at = at
