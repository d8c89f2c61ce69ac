"""The table of a house's pairs, and how it gets less by threes.

A table is a list, in the order of the pairs: for each pair several relations of the lower thing to the higher one.
"""

from believeddesk.behind import rows_behind
from believeddesk.kinds import TURNED


def pairs_of(things):
    pairs = []
    for higher in range(things):
        for lower in range(higher):
            pairs.append((lower, higher))
    return pairs


def place_of(lower, higher):
    return higher * (higher - 1) // 2 + lower


def relations_in(several):
    return [relation for relation in range(several.bit_length()) if several >> relation & 1]


def with_several(table, place, several):
    changed = list(table)
    changed[place] = several
    return changed


class Rules:
    def __init__(self, kind, things):
        self.kind = kind
        self.things = things
        self.rows = rows_behind(kind)

    def turned(self, several):
        found = 0
        for relation in relations_in(several):
            found = found | (1 << TURNED[self.kind][relation])
        return found

    def behind(self, near, far):
        found = 0
        for first in relations_in(near):
            for second in relations_in(far):
                found = found | self.rows[first][second]
        return found

    def between(self, table, first, other):
        if first < other:
            return table[place_of(first, other)]
        return self.turned(table[place_of(other, first)])

    def by_three(self, table, lower, higher, third):
        near = self.between(table, lower, third)
        far = self.between(table, third, higher)
        return table[place_of(lower, higher)] & self.behind(near, far)

    def first_table(self, news):
        table = [(1 << len(TURNED[self.kind])) - 1 for pair in pairs_of(self.things)]
        for first, other, several in news:
            place = place_of(min(first, other), max(first, other))
            table[place] = table[place] & (several if first < other else self.turned(several))
        return table
