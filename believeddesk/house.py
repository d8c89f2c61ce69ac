"""One house: what it is told of its things, and what it answers to a line of calls."""

# By a kind's number, how many relations it has: moments, spans, sets, places.
RELATION_COUNTS = (3, 13, 5, 9)
MOST_THINGS = 4
MOST_NEWS = 10

OUT_OF_BOUNDS = -1
NO_SUCH_NEWS = -2
NEWS_FULL = -7

BEGINS = 0
TOLD = 1
# By a call's number (begins, told, drop), how many numbers stand behind it.
NUMBER_COUNTS = (2, 3, 1)


class CallNotBuilt(Exception):
    pass


class House:
    def __init__(self):
        self.kind = 0
        self.things = 0
        self.news = []

    def begins(self, kind, things):
        if kind >= len(RELATION_COUNTS) or things < 1 or things > MOST_THINGS:
            return [OUT_OF_BOUNDS]
        self.kind = kind
        self.things = things
        self.news = []
        return [0]

    def told(self, first, other, several):
        # Where both refusals fit, the one that the document names first is answered.
        if not self.has_two(first, other) or not self.has_relations(several):
            return [OUT_OF_BOUNDS]
        if len(self.news) >= MOST_NEWS:
            return [NEWS_FULL]
        self.news.append((first, other, several))
        return [len(self.news) - 1]

    def drop(self, which):
        if which >= len(self.news):
            return [NO_SUCH_NEWS]
        self.news.pop(which)
        return [len(self.news)]

    def has_two(self, first, other):
        return first != other and first < self.things and other < self.things

    def has_relations(self, several):
        # None at all is let: nothing is left of the pair then.
        return several.bit_length() <= RELATION_COUNTS[self.kind]


def call_at(calls, start):
    number = calls[start]
    # Passing over such a call would leave its answer out and shift all that follow.
    if number >= len(NUMBER_COUNTS):
        raise CallNotBuilt(f"no answer is built for call {number}")
    return calls[start:start + 1 + NUMBER_COUNTS[number]]


def answer_to(house, call):
    if call[0] == BEGINS:
        return house.begins(call[1], call[2])
    if call[0] == TOLD:
        return house.told(call[1], call[2], call[3])
    return house.drop(call[1])


def answers(calls):
    house = House()
    given = []
    start = 0
    while start < len(calls):
        call = call_at(calls, start)
        answer = answer_to(house, call)
        given.append(len(answer))
        given.extend(answer)
        start = start + len(call)
    return given
