"""What is one behind another: what a first thing can be to a third by what each is to a second."""

from believeddesk.kinds import MOMENTS, SETS, SPANS, TURNED, is_thing, relation, set_of_cells

CELLS_OF_THREE = (1, 2, 3, 4, 5, 6, 7)


def pairs_of_numbers(count):
    pairs = []
    for first in range(count):
        for second in range(count):
            pairs.append((first, second))
    return pairs


def some_things(kind):
    # Three things have three marks to be compared, three spans six: as many numbers are enough for every order.
    if kind == MOMENTS:
        return [(number,) for number in range(3)]
    if kind == SPANS:
        return [span for span in pairs_of_numbers(6) if is_thing(kind, span)]
    return pairs_of_numbers(3)


def related_to_all(kind, first, things):
    return [relation(kind, first, other) for other in things]


def triples_by_marks(kind):
    things = some_things(kind)
    related = [related_to_all(kind, thing, things) for thing in things]
    triples = []
    for row in related:
        for second, near in enumerate(row):
            for third, far in enumerate(related[second]):
                triples.append((near, far, row[third]))
    return triples


def triples_of_sets():
    # Which of three sets' cells have something in them settles what the sets are to each other.
    triples = []
    for filled in range(2 ** 7):
        cells = [cell for cell in CELLS_OF_THREE if filled >> (cell - 1) & 1]
        first = set_of_cells(cells, 0)
        second = set_of_cells(cells, 1)
        third = set_of_cells(cells, 2)
        if is_thing(SETS, first) and is_thing(SETS, second) and is_thing(SETS, third):
            near = relation(SETS, first, second)
            far = relation(SETS, second, third)
            triples.append((near, far, relation(SETS, first, third)))
    return triples


def rows_behind(kind):
    count = len(TURNED[kind])
    rows = [[0] * count for near in range(count)]
    triples = triples_of_sets() if kind == SETS else triples_by_marks(kind)
    for near, far, across in triples:
        rows[near][far] = rows[near][far] | (1 << across)
    return rows
