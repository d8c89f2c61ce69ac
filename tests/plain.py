"""The document's words once more, gone through as plainly as can be, to hold the program's answers against.

Nothing of the program is used here. Several relations are a frozenset, a table is a dict by pairs, cases are gone
through by recursion, and what can be is found by looking at all things of a kind that are small enough.
"""

import functools
import itertools

COUNTS = (3, 13, 5, 9)
SETS = 2


def compared(first, other):
    return 0 if first < other else 1 if first == other else 2


def moments(first, other):
    return compared(first[0], other[0])


SPAN_WORDS = (
    lambda a, b, c, d: b < c,
    lambda a, b, c, d: b == c,
    lambda a, b, c, d: a < c < b < d,
    lambda a, b, c, d: a == c and b < d,
    lambda a, b, c, d: c < a and b < d,
    lambda a, b, c, d: c < a and b == d,
    lambda a, b, c, d: a == c and b == d,
    lambda a, b, c, d: a < c and b == d,
    lambda a, b, c, d: a < c and d < b,
    lambda a, b, c, d: a == c and d < b,
    lambda a, b, c, d: c < a < d < b,
    lambda a, b, c, d: a == d,
    lambda a, b, c, d: a > d,
)


def spans(first, other):
    holding = [number for number, words in enumerate(SPAN_WORDS) if words(*first, *other)]
    if len(holding) != 1:
        raise ValueError(f"not just one relation: {first} {other} {holding}")
    return holding[0]


def sets(first, other):
    if not first & other:
        return 0
    if first == other:
        return 3
    if first < other:
        return 2
    return 4 if other < first else 1


def places(first, other):
    return 3 * compared(first[0], other[0]) + compared(first[1], other[1])


RELATIONS = (moments, spans, sets, places)


def pairs(things):
    return [(lower, higher) for higher in range(things) for lower in range(higher)]


def sets_by_cells(things, cells):
    return tuple(frozenset(cell for cell in cells if cell >> thing & 1) for thing in range(things))


def all_sets(things):
    cells = range(1, 2 ** things)
    for some in itertools.product((False, True), repeat=len(cells)):
        found = sets_by_cells(things, [cell for cell, has in zip(cells, some) if has])
        if all(found):
            yield found


def all_things(kind, things):
    """As many things, in all ways that differ in what they are to each other."""
    if kind == 0:
        return itertools.product([(number,) for number in range(things)], repeat=things)
    if kind == 1:
        return itertools.product(list(itertools.combinations(range(2 * things), 2)), repeat=things)
    if kind == 3:
        return itertools.product(list(itertools.product(range(things), repeat=2)), repeat=things)
    return all_sets(things)


@functools.lru_cache(maxsize=None)
def ways(kind, things):
    """Each way, in order, and its picture: each mark's least, or each cell that some such things have."""
    relation = functools.lru_cache(maxsize=None)(RELATIONS[kind])
    order = pairs(things)
    found = {}
    for some in all_things(kind, things):
        way = tuple([relation(some[lower], some[higher]) for lower, higher in order])
        if kind == SETS:
            found[way] = found.get(way, frozenset()).union(*some)
        else:
            marks = [number for thing in some for number in thing]
            found[way] = list(map(min, found.get(way, marks), marks))
    return {way: sorted(found[way]) if kind == SETS else found[way] for way in sorted(found)}


@functools.lru_cache(maxsize=None)
def turned(kind, number):
    relation = RELATIONS[kind]
    return {relation(other, first) for first, other in all_things(kind, 2) if relation(first, other) == number}.pop()


@functools.lru_cache(maxsize=None)
def behind(kind, near, far):
    return frozenset(way[1] for way in ways(kind, 3) if way[0] == near and way[2] == far)


def relations_of(several):
    return frozenset(number for number in range(several.bit_length()) if several >> number & 1)


def turned_round(kind, several):
    return frozenset(turned(kind, number) for number in several)


def one_behind_another(kind, near, far):
    return frozenset().union(*[behind(kind, first, second) for first in near for second in far])


class Told:
    """What a house is told, as far as it was taken."""

    def __init__(self, kind, things, news):
        self.kind = kind
        self.things = things
        self.news = news

    def table(self):
        table = {pair: frozenset(range(COUNTS[self.kind])) for pair in pairs(self.things)}
        for first, other, several in self.news:
            told = relations_of(several)
            if first > other:
                first, other, told = other, first, turned_round(self.kind, told)
            table[first, other] &= told
        return table

    def between(self, table, first, other):
        return table[first, other] if first < other else turned_round(self.kind, table[other, first])

    def by_three(self, table, lower, higher, third):
        near, far = self.between(table, lower, third), self.between(table, third, higher)
        return {**table, (lower, higher): table[lower, higher] & one_behind_another(self.kind, near, far)}

    def own(self):
        table = self.table()
        for way, numbers in ways(self.kind, self.things).items():
            if all(number in table[pair] for number, pair in zip(way, pairs(self.things))):
                return [1, len(numbers)] + numbers
        steps = self.own_steps(table)
        return [0, len(steps)] + [number for step in steps for number in step]

    def own_steps(self, table):
        for lower, higher in pairs(self.things):
            for third in sorted(set(range(self.things)) - {lower, higher}):
                less = self.by_three(table, lower, higher, third)
                if less != table:
                    return [(0, lower, higher, third)] + self.own_steps(less)
        for pair in pairs(self.things):
            if not table[pair]:
                return [(2, *pair)]
        pair = next(pair for pair in pairs(self.things) if len(table[pair]) > 1)
        steps = [(1, *pair)]
        for number in sorted(table[pair]):
            steps += self.own_steps({**table, pair: frozenset([number])})
        return steps

    def refuted_by(self, numbers):
        steps = []
        rest = list(numbers)
        while rest:
            size = {0: 4, 1: 3, 2: 3}.get(rest[0])
            if size is None or len(rest) < size:
                return [-1]
            steps.append(tuple(rest[:size]))
            rest = rest[size:]
        try:
            end = self.gone_through(self.table(), steps, 0)
        except Wrong as wrong:
            return list(wrong.args)
        return [0] if end == len(steps) else [4, end]

    def gone_through(self, table, steps, at):
        """Where the steps from there on have ended."""
        while at < len(steps):
            sort, lower, higher = steps[at][:3]
            others = set(range(self.things)) - {lower, higher}
            if (lower, higher) not in table or sort == 0 and steps[at][3] not in others:
                raise Wrong(1, at)
            if sort == 0:
                table = self.by_three(table, *steps[at][1:])
                at += 1
            elif sort == 1:
                at += 1
                for number in sorted(table[lower, higher]):
                    at = self.gone_through({**table, (lower, higher): frozenset([number])}, steps, at)
                return at
            elif table[lower, higher]:
                raise Wrong(2, at)
            else:
                return at + 1
        raise Wrong(3, len(steps))

    def shown_by(self, numbers):
        if self.kind == SETS:
            if any(not 0 < cell < 2 ** self.things for cell in numbers):
                return [1, 0]
            shown = sets_by_cells(self.things, numbers)
            missing = [thing for thing in range(self.things) if not shown[thing]]
        else:
            size = 1 if self.kind == 0 else 2
            if len(numbers) != size * self.things:
                return [1, 0]
            shown = [tuple(numbers[size * thing:size * thing + size]) for thing in range(self.things)]
            missing = [thing for thing in range(self.things) if self.kind == 1 and shown[thing][0] >= shown[thing][1]]
        if missing:
            return [2, missing[0]]
        for number, (first, other, several) in enumerate(self.news):
            if RELATIONS[self.kind](shown[first], shown[other]) not in relations_of(several):
                return [3, number]
        return [0]


class Wrong(Exception):
    pass


def answered(calls):
    """Each call's answer; a call is a list as the interface has it."""
    house = Told(0, 0, [])
    given = []
    for call in calls:
        given.append(answer(house, call[0], call[1:]))
    return given


def answer(house, number, handed):
    if number == 0:
        kind, things = handed
        if kind > 3 or not 1 <= things <= 4:
            return [-1]
        house.kind, house.things, house.news = kind, things, []
        return [0]
    if number == 1:
        first, other, several = handed
        if max(first, other) >= house.things or first == other or several >= 2 ** COUNTS[house.kind]:
            return [-1]
        if len(house.news) == 10:
            return [-7]
        house.news = house.news + [(first, other, several)]
        return [len(house.news) - 1]
    if number == 2:
        if handed[0] >= len(house.news):
            return [-2]
        house.news = house.news[:handed[0]] + house.news[handed[0] + 1:]
        return [len(house.news)]
    if number == 3:
        return house.own()
    return house.refuted_by(handed[1:]) if number == 4 else house.shown_by(handed[1:])
