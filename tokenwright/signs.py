"""The signs in their order, and which of them a rule writes with a backslash."""

# The order is that of this text: the line end first, then by their numbers, 37 left out.
SIGNS = "\n !\"#$&'()*+,-./0123456789:;<=>?@ABCDEFGHIJKLMNOPQRSTUVWXYZ[\\]^_`abcdefghijklmnopqrstuvwxyz{|}~"

# These do not stand for themselves, outside a class and within one.
MARKED_OUTSIDE = ".|()[]*+?\\"
MARKED_WITHIN = "]-\\"


def in_order(signs):
    return "".join([sign for sign in SIGNS if sign in signs])


def all_but(signs):
    return "".join([sign for sign in SIGNS if sign not in signs])


def is_ahead(one, other):
    return SIGNS.index(one) < SIGNS.index(other)


def stretch(first, last):
    return SIGNS[SIGNS.index(first):SIGNS.index(last) + 1]
