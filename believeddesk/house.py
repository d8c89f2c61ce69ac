"""One house: what it is told of its things, and what it answers to a line of calls."""

from believeddesk.can import wrong_with_numbers
from believeddesk.cannot import steps_of, wrong_with_steps
from believeddesk.kinds import TURNED
from believeddesk.own import own_answer
from believeddesk.table import Rules

MOST_THINGS = 4
MOST_NEWS = 10

OUT_OF_BOUNDS = -1
STEPS_MALFORMED = -1
NO_SUCH_NEWS = -2
NEWS_FULL = -7

BEGINS = 0
TOLD = 1
DROP = 2
OWN = 3
NOT = 4
# By a call's number (begins, told, drop, own): how many numbers stand behind it. Not and can have a row instead.
NUMBER_COUNTS = (2, 3, 1, 0)


class House:
    def __init__(self):
        self.kind = 0
        self.things = 0
        self.news = []

    def begins(self, kind, things):
        if kind >= len(TURNED) or things < 1 or things > MOST_THINGS:
            return [OUT_OF_BOUNDS]
        self.kind = kind
        self.things = things
        self.news = []
        return [0]

    def told(self, first, other, several):
        # Where both refusals fit, the one that the document names first is answered.
        if not self.has_two(first, other) or not self.has_relations(several):
            return [OUT_OF_BOUNDS]
        if len(self.news) >= MOST_NEWS:
            return [NEWS_FULL]
        self.news.append((first, other, several))
        return [len(self.news) - 1]

    def drop(self, which):
        if which >= len(self.news):
            return [NO_SUCH_NEWS]
        self.news.pop(which)
        return [len(self.news)]

    def own(self):
        rules = Rules(self.kind, self.things)
        return own_answer(rules, rules.first_table(self.news))

    def cannot_by(self, numbers):
        steps = steps_of(numbers)
        if steps is None:
            return [STEPS_MALFORMED]
        rules = Rules(self.kind, self.things)
        return wrong_with_steps(rules, rules.first_table(self.news), steps)

    def can_by(self, numbers):
        return wrong_with_numbers(self.kind, self.things, self.news, numbers)

    def has_two(self, first, other):
        return first != other and first < self.things and other < self.things

    def has_relations(self, several):
        # None at all is let: nothing is left of the pair then.
        return several.bit_length() <= len(TURNED[self.kind])


def call_at(calls, start):
    number = calls[start]
    if number < len(NUMBER_COUNTS):
        return calls[start:start + 1 + NUMBER_COUNTS[number]]
    return calls[start:start + 2 + calls[start + 1]]


def answer_to(house, call):
    if call[0] == BEGINS:
        return house.begins(call[1], call[2])
    if call[0] == TOLD:
        return house.told(call[1], call[2], call[3])
    if call[0] == DROP:
        return house.drop(call[1])
    if call[0] == OWN:
        return house.own()
    if call[0] == NOT:
        return house.cannot_by(call[2:])
    return house.can_by(call[2:])


def answers(calls):
    house = House()
    given = []
    start = 0
    while start < len(calls):
        call = call_at(calls, start)
        answer = answer_to(house, call)
        given.append(len(answer))
        given.extend(answer)
        start = start + len(call)
    return given
