"""The kinds of things, and what two things of one kind are to each other.

A moment, a span or a place is a tuple of its marks; a set is a number, a bit for each of its members.
"""

# Kind 3, places, is told from the others by its rows alone.
MOMENTS = 0
SPANS = 1
SETS = 2

# By kind and relation: the relation turned round.
TURNED = (
    (2, 1, 0),
    (12, 11, 10, 9, 8, 7, 6, 5, 4, 3, 2, 1, 0),
    (0, 1, 4, 3, 2),
    (8, 7, 6, 5, 4, 3, 2, 1, 0),
)

# By kind: how many marks a thing has.
MARK_COUNTS = (1, 2, 0, 2)

LOWER = 0
SAME = 1
HIGHER = 2
# By kind: which mark of the first is compared with which one of the other.
COMPARED = (
    ((0, 0),),
    ((0, 0), (0, 1), (1, 0), (1, 1)),
    (),
    ((0, 0), (1, 1)),
)
# By kind and relation: how these marks compare. Spans need all four, so that a way leaves no order of marks open.
COMPARISONS = (
    ((0,), (1,), (2,)),
    (
        (0, 0, 0, 0),
        (0, 0, 1, 0),
        (0, 0, 2, 0),
        (1, 0, 2, 0),
        (2, 0, 2, 0),
        (2, 0, 2, 1),
        (1, 0, 2, 1),
        (0, 0, 2, 1),
        (0, 0, 2, 2),
        (1, 0, 2, 2),
        (2, 0, 2, 2),
        (2, 1, 2, 2),
        (2, 2, 2, 2),
    ),
    (),
    ((0, 0), (0, 1), (0, 2), (1, 0), (1, 1), (1, 2), (2, 0), (2, 1), (2, 2)),
)

APART = 0
OVERLAPPING = 1
PART = 2
EQUAL = 3
WHOLE = 4


def comparison(first, other):
    if first < other:
        return LOWER
    if first == other:
        return SAME
    return HIGHER


def set_relation(first, other):
    both = first & other
    if both == 0:
        return APART
    if first == other:
        return EQUAL
    if both == first:
        return PART
    if both == other:
        return WHOLE
    return OVERLAPPING


def lets_cell(told, in_first, in_other):
    if told == APART:
        return not (in_first and in_other)
    if told == PART:
        return in_other or not in_first
    if told == WHOLE:
        return in_first or not in_other
    if told == EQUAL:
        return in_first == in_other
    return True


def relation(kind, first, other):
    if kind == SETS:
        return set_relation(first, other)
    row = tuple([comparison(first[mine], other[theirs]) for mine, theirs in COMPARED[kind]])
    return COMPARISONS[kind].index(row)


def is_thing(kind, thing):
    if kind == SPANS:
        return thing[0] < thing[1]
    if kind == SETS:
        return thing != 0
    return True


def set_of_cells(cells, which):
    # How much is in a cell changes no relation, so that one member for each is enough.
    members = 0
    for place, cell in enumerate(cells):
        members = members | (cell >> which & 1) << place
    return members
