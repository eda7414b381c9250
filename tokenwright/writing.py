"""Trees written: the shortest rule that has a tree, so that no rule grows by being read and written."""

from tokenwright.signs import MARKED_OUTSIDE, MARKED_WITHIN, SIGNS, all_but

MARKS = {"star": "*", "plus": "+", "maybe": "?"}


def written(tree):
    if tree[0] == "or":
        return "|".join([row_text(part) for part in tree[1]])
    return row_text(tree)


def row_text(tree):
    if tree[0] == "row":
        return "".join([repeat_text(part) for part in tree[1]])
    return repeat_text(tree)


def repeat_text(tree):
    # A loop, since a rule may have as many marks one behind the other as it has signs.
    marks = ""
    inner = tree
    while inner[0] in MARKS:
        marks = MARKS[inner[0]] + marks
        inner = inner[1]
    return atom_text(inner) + marks


def atom_text(tree):
    if tree[0] == "one":
        return place_text(tree[1])
    return "(" + written(tree) + ")"


def place_text(signs):
    if len(signs) == 1:
        return sign_text(signs, MARKED_OUTSIDE)
    if signs == all_but("\n"):
        return "."
    return min(class_texts(signs), key=len)


def sign_text(sign, marked):
    return "\\" + sign if sign in marked else sign


# A class has one item or more, so no signs and all signs can each be written in one way only.
def class_texts(signs):
    texts = []
    if signs != "":
        texts.append("[" + guarded(class_items(signs)) + "]")
    if signs != SIGNS:
        texts.append("[^" + "".join(class_items(all_but(signs))) + "]")
    return texts


# Right behind `[` a `^` would turn the class: it goes to the end, or gets a backslash if it is alone.
def guarded(items):
    if not items[0].startswith("^"):
        return "".join(items)
    if len(items) == 1:
        return "\\" + items[0]
    return "".join(items[1:]) + items[0]


def class_items(signs):
    items = []
    for run in runs(signs):
        items.extend(run_items(run))
    return items


# The longest pieces of the signs that stand without a gap in the order.
def runs(signs):
    found = []
    run = ""
    for sign in signs:
        if run + sign not in SIGNS:
            found.append(run)
            run = ""
        run += sign
    found.append(run)
    return found


# One stretch or sign by sign: whatever mixes the two for one run is longer than the stretch.
def run_items(run):
    singles = [sign_text(sign, MARKED_WITHIN) for sign in run]
    whole = sign_text(run[0], MARKED_WITHIN) + "-" + sign_text(run[-1], MARKED_WITHIN)
    return singles if len("".join(singles)) <= len(whole) else [whole]
