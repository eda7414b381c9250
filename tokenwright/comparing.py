"""Rules compared: the first text that two rows of rules tell apart, and a sample of each rule."""

from tokenwright.signs import SIGNS
from tokenwright.tables import rounds, table_of, with_nowhere


def difference(rules, other_rules):
    one = table_of(rules)
    other = table_of(other_rules)
    # Both tables' states in one list: the other's have their numbers behind those of the first.
    told = one.told + other.told + (None,)
    rows = with_nowhere(one.rows + moved(other.rows, one.size()))
    return text_apart(rounds(told, rows), rows, (0, one.size()))


def moved(rows, by):
    return [dict([(sign, row[sign] + by) for sign in row]) for row in rows]


# Each round has the blocks of all texts up to its size. So the first round in which the two states are
# in different blocks tells the shortest text's size, and behind each of its signs the round ahead does.
def text_apart(found, rows, states):
    size = 0
    while size < len(found) and not are_apart(found[size], states):
        size += 1
    if size == len(found):
        return None
    text = ""
    pair = states
    for blocks in reversed(found[:size]):
        text += sign_apart(blocks, rows, pair)
        pair = states_behind(rows, pair, text[-1])
    return text


def are_apart(blocks, pair):
    return blocks[pair[0]] != blocks[pair[1]]


def states_behind(rows, pair, sign):
    return (rows[pair[0]][sign], rows[pair[1]][sign])


def sign_apart(blocks, rows, pair):
    return [sign for sign in SIGNS if are_apart(blocks, states_behind(rows, pair, sign))][0]


def samples(rules):
    table = table_of(rules)
    texts = first_texts(table)
    return [sample(table, texts, number) for number in range(len(rules))]


def unused(rules):
    return [number for number, text in enumerate(samples(rules)) if text is None]


# States are numbered as they are come to, so of those that tell a rule the first has the first text.
def sample(table, texts, number):
    if number not in table.told:
        return None
    return texts[table.told.index(number)]


def first_texts(table):
    texts = {0: ""}
    for state in range(table.size()):
        for sign in SIGNS:
            behind = table.goes(state, sign)
            if behind is not None:
                texts.setdefault(behind, texts[state] + sign)
    return texts
