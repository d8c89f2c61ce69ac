"""The house's own proof, that it can all be so or that it can't."""

from believeddesk.cannot import BY_THREE, CASES, END, tables_behind
from believeddesk.picture import picture
from believeddesk.table import pairs_of, place_of, relations_in

IT_CANNOT = 0
IT_CAN = 1


def step_by_three(rules, table):
    for lower, higher in pairs_of(rules.things):
        for third in range(rules.things):
            if third != lower and third != higher:
                if rules.by_three(table, lower, higher, third) != table[place_of(lower, higher)]:
                    return [BY_THREE, lower, higher, third]
    return None


def step_by_end(rules, table):
    for lower, higher in pairs_of(rules.things):
        if table[place_of(lower, higher)] == 0:
            return [END, lower, higher]
    return None


def step_by_cases(rules, table):
    for lower, higher in pairs_of(rules.things):
        if len(relations_in(table[place_of(lower, higher)])) > 1:
            return [CASES, lower, higher]
    return None


def next_step(rules, table):
    step = step_by_three(rules, table)
    if step is None:
        step = step_by_end(rules, table)
    if step is None:
        step = step_by_cases(rules, table)
    return step


def answer_that_it_can(rules, table):
    way = [relations_in(several)[0] for several in table]
    numbers = picture(rules.kind, rules.things, way)
    return [IT_CAN, len(numbers)] + numbers


def answer_that_it_cannot(steps):
    answer = [IT_CANNOT, len(steps)]
    for step in steps:
        answer.extend(step)
    return answer


def own_answer(rules, table):
    steps = []
    waiting = [table]
    while len(waiting) > 0:
        now = waiting.pop()
        step = next_step(rules, now)
        # One relation is left of each pair, and no three of them gainsay each other: with these kinds there are
        # such things then. Cases go by the first pair, rising, so that no way stands ahead of this one.
        if step is None:
            return answer_that_it_can(rules, now)
        steps.append(step)
        waiting.extend(tables_behind(rules, now, step))
    return answer_that_it_cannot(steps)
