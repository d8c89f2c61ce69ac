"""The picture of things, one relation given for each pair."""

from believeddesk.kinds import COMPARED, COMPARISONS, HIGHER, LOWER, MARK_COUNTS, SETS, SPANS, lets_cell
from believeddesk.table import pairs_of


def has_something(cell, pairs, way):
    for pair, relation in zip(pairs, way):
        in_first = cell >> pair[0] & 1 == 1
        in_other = cell >> pair[1] & 1 == 1
        if not lets_cell(relation, in_first, in_other):
            return False
    return True


def picture_of_sets(things, way):
    pairs = pairs_of(things)
    return [cell for cell in range(1, 1 << things) if has_something(cell, pairs, way)]


def bounds_of_mark(comparison, mark, other_mark):
    # A bound is a mark, one that is no lower, and by how much that one is above it at least.
    if comparison == LOWER:
        return [(mark, other_mark, 1)]
    if comparison == HIGHER:
        return [(other_mark, mark, 1)]
    return [(mark, other_mark, 0), (other_mark, mark, 0)]


def bounds_of_pair(kind, pair, relation):
    bounds = []
    for compared, comparison in zip(COMPARED[kind], COMPARISONS[kind][relation]):
        mark = pair[0] * MARK_COUNTS[kind] + compared[0]
        other_mark = pair[1] * MARK_COUNTS[kind] + compared[1]
        bounds.extend(bounds_of_mark(comparison, mark, other_mark))
    return bounds


def bounds_of_spans(things):
    return [(2 * thing, 2 * thing + 1, 1) for thing in range(things)]


def bounds_of(kind, things, way):
    bounds = bounds_of_spans(things) if kind == SPANS else []
    for pair, relation in zip(pairs_of(things), way):
        bounds.extend(bounds_of_pair(kind, pair, relation))
    return bounds


def least_numbers(count, bounds):
    # From 0 on a number is raised only where a bound asks for it, so that none ends above the least it can be.
    numbers = [0] * count
    raised = True
    while raised:
        raised = False
        for low, high, gap in bounds:
            if numbers[high] < numbers[low] + gap:
                numbers[high] = numbers[low] + gap
                raised = True
    return numbers


def picture(kind, things, way):
    if kind == SETS:
        return picture_of_sets(things, way)
    return least_numbers(things * MARK_COUNTS[kind], bounds_of(kind, things, way))
