"""Calls as the interface has them, and what is answered, call by call."""

from believeddesk.house import answers

LARGEST = 4294967295
# The largest number of several that each kind has: 3, 13, 5 and 9 relations.
LARGEST_SEVERAL = (7, 8191, 31, 511)


def begins(kind, things):
    return [0, kind, things]


def told(first, other, several):
    return [1, first, other, several]


def drop(which):
    return [2, which]


def own():
    return [3]


def cannot(numbers):
    return [4, len(numbers)] + list(numbers)


def can(numbers):
    return [5, len(numbers)] + list(numbers)


def flat(steps):
    """A proof's numbers, step behind step."""
    return [number for step in steps for number in step]


def line(calls):
    return [number for call in calls for number in call]


def answered(calls):
    """Each call's answer as a list, taken apart by the counts ahead of them."""
    given = answers(line(calls))
    parts = []
    start = 0
    while start < len(given):
        count = given[start]
        part = given[start + 1:start + 1 + count]
        if len(part) != count:
            raise ValueError("fewer numbers than their count says")
        parts.append(part)
        start += 1 + count
    return parts


def telling(kind, things, news):
    """The calls that tell a house these news."""
    return [begins(kind, things)] + [told(*each) for each in news]


def last(calls):
    """What is answered to the last call."""
    return answered(calls)[-1]


def firsts(calls):
    """Each call's answer, where each is one number."""
    parts = answered(calls)
    if len(parts) != len(calls) or any(len(part) != 1 for part in parts):
        raise ValueError(f"not one number for each call: {parts}")
    return [part[0] for part in parts]
