"""A proof that it can't all be so: its steps, and what is wrong first with it."""

from believeddesk.table import place_of, relations_in, with_several

BY_THREE = 0
CASES = 1
END = 2
# By a step's first number: how many numbers it has.
STEP_SIZES = (4, 3, 3)

PROVED = 0
NO_SUCH_THINGS = 1
NO_END_YET = 2
STEPS_MISSING = 3
STEPS_LEFT_OVER = 4


def steps_of(numbers):
    steps = []
    start = 0
    while start < len(numbers):
        if numbers[start] >= len(STEP_SIZES):
            return None
        size = STEP_SIZES[numbers[start]]
        if start + size > len(numbers):
            return None
        steps.append(numbers[start:start + size])
        start = start + size
    return steps


def has_things(things, step):
    lower = step[1]
    higher = step[2]
    if lower >= higher or higher >= things:
        return False
    if step[0] == BY_THREE:
        return step[3] < things and step[3] != lower and step[3] != higher
    return True


def tables_behind(rules, table, step):
    # What is still to be gone through in this one's stead, the next at the end.
    place = place_of(step[1], step[2])
    if step[0] == BY_THREE:
        return [with_several(table, place, rules.by_three(table, step[1], step[2], step[3]))]
    if step[0] == CASES:
        return [with_several(table, place, 1 << alone) for alone in reversed(relations_in(table[place]))]
    return []


def wrong_with_steps(rules, table, steps):
    waiting = [table]
    for number, step in enumerate(steps):
        if len(waiting) == 0:
            return [STEPS_LEFT_OVER, number]
        if not has_things(rules.things, step):
            return [NO_SUCH_THINGS, number]
        now = waiting.pop()
        if step[0] == END and now[place_of(step[1], step[2])] != 0:
            return [NO_END_YET, number]
        waiting.extend(tables_behind(rules, now, step))
    if len(waiting) > 0:
        return [STEPS_MISSING, len(steps)]
    return [PROVED]
