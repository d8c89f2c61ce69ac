"""A proof that it can all be so: its things, and what is wrong first with it."""

from believeddesk.kinds import MARK_COUNTS, SETS, is_thing, relation, set_of_cells

PROVED = 0
WRONG_NUMBERS = 1
NOT_A_THING = 2
NEWS_NOT_SO = 3


def are_cells(things, numbers):
    for number in numbers:
        if number == 0 or number >= 1 << things:
            return False
    return True


def has_form(kind, things, numbers):
    if kind == SETS:
        return are_cells(things, numbers)
    return len(numbers) == things * MARK_COUNTS[kind]


def things_of(kind, things, numbers):
    if kind == SETS:
        return [set_of_cells(numbers, thing) for thing in range(things)]
    count = MARK_COUNTS[kind]
    return [tuple(numbers[thing * count:thing * count + count]) for thing in range(things)]


def is_so(kind, shown, told):
    holds = relation(kind, shown[told[0]], shown[told[1]])
    return told[2] >> holds & 1 == 1


def wrong_with_numbers(kind, things, news, numbers):
    if not has_form(kind, things, numbers):
        return [WRONG_NUMBERS, 0]
    shown = things_of(kind, things, numbers)
    for number, thing in enumerate(shown):
        if not is_thing(kind, thing):
            return [NOT_A_THING, number]
    for number, told in enumerate(news):
        if not is_so(kind, shown, told):
            return [NEWS_NOT_SO, number]
    return [PROVED]
