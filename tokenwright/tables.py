"""Rules made into the smallest table that tells the first rule of every text."""

from tokenwright.places import AHEAD, places_of
from tokenwright.signs import SIGNS

MOST_PLACES = 10


def table_of(rules):
    return smallest(spread(places_of(rules, MOST_PLACES)))


def same(one, other):
    return one.told == other.told and one.rows == other.rows


# For each state a row: the signs that lead on, with the states behind them.
class Table:
    def __init__(self, told, rows):
        # Whoever changes the list that is shown changes nothing of what the table tells.
        self.takes = list(told)
        self.told = tuple(told)
        self.rows = rows

    def size(self):
        return len(self.told)

    def goes(self, state, sign):
        return self.rows[state].get(sign)

    def first(self, text):
        state = 0
        for sign in text:
            state = self.goes(state, sign)
            if state is None:
                return None
        return self.told[state]


# A state for each lot of places that can be held together, numbered as they are come to.
def spread(places):
    lots = [AHEAD]
    numbers = {AHEAD: 0}
    rows = []
    while len(rows) < len(lots):
        reach = places.beyond(lots[len(rows)])
        row = {}
        for sign in SIGNS:
            held = reach & places.takers[sign]
            if held != 0 and held not in numbers:
                numbers[held] = len(lots)
                lots.append(held)
            if held != 0:
                row[sign] = numbers[held]
        rows.append(row)
    return Table([places.first_rule(held) for held in lots], rows)


# Blocks have their numbers by their first states, so they are numbered as they are come to, too.
def smallest(table):
    blocks = rounds(table.told + (None,), with_nowhere(table.rows))[-1]
    told = []
    rows = []
    for state, row in enumerate(table.rows):
        if blocks[state] == len(rows):
            told.append(table.told[state])
            rows.append(dict([(sign, blocks[row[sign]]) for sign in row]))
    return Table(told, rows)


# A last state stands in where no state is behind a sign. It tells nothing and leads to itself alone.
def with_nowhere(rows):
    nowhere = len(rows)
    return [dict([(sign, row.get(sign, nowhere)) for sign in SIGNS]) for row in rows + [{}]]


# For each size from 0 on the list of each state's block, where states are in one block if they tell
# the same of all texts up to that size; up to the size from which on nothing more is parted.
def rounds(told, rows):
    signs = telling_signs(rows)
    found = [numbered(told)]
    while True:
        finer = parted(found[-1], rows, signs)
        if max(finer) == max(found[-1]):
            return found
        found.append(finer)


def parted(blocks, rows, signs):
    keys = []
    for state, row in enumerate(rows):
        keys.append((blocks[state], tuple([blocks[row[sign]] for sign in signs])))
    return numbered(keys)


def numbered(keys):
    numbers = {}
    return [numbers.setdefault(key, len(numbers)) for key in keys]


# The first of those signs that lead from every state to the same: the others part nothing more.
def telling_signs(rows):
    firsts = {}
    for sign in SIGNS:
        firsts.setdefault(tuple([row[sign] for row in rows]), sign)
    return list(firsts.values())
