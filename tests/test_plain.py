import random
import unittest

import plain
from lines import LARGEST, answered, begins, can, cannot, drop, last, own, telling, told

# What is told of each pair, in their order, where the proof that it can't goes through cases, within cases too.
BY_CASES = (
    (1, (36, 68, 384, 1664, 256, 2176)),
    (1, (1056, 646, 257, 1638, 1666, 2054)),
    (1, (1152, 640, 320, 256, 1664, 4224)),
    (1, (2202, 514, 1076, 1029, 2176, 4102)),
    (1, (768, 256, 3585, 644, 1636, 2056)),
    (1, (321, 333, 7169, 1714, 556, 2472)),
    (3, (264, 258, 68, 160, 40, 130)),
    (3, (4, 250, 204, 38, 136, 200)),
    (3, (10, 33, 96, 34, 260, 36)),
    (3, (240, 211, 5, 312, 34, 160)),
)


def some_several(chance, kind):
    share = chance.choice((0.15, 0.3, 0.5, 0.7, 0.9))
    return sum(1 << number for number in range(plain.COUNTS[kind]) if chance.random() < share)


def some_news(chance, kind, things, most=10):
    if things < 2:
        return []
    return [(*chance.sample(range(things), 2), some_several(chance, kind)) for _ in range(chance.randrange(most + 1))]


def changed(chance, numbers, things):
    numbers = list(numbers)
    for _ in range(chance.randrange(3)):
        sort = chance.randrange(3)
        if sort == 0 and numbers:
            numbers[chance.randrange(len(numbers))] = chance.choice((0, 1, 2, 3, 4, 5, 1 << things, LARGEST))
        elif sort == 1 and numbers:
            numbers.pop(chance.randrange(len(numbers)))
        else:
            numbers.insert(chance.randrange(len(numbers) + 1), chance.randrange(5))
    return numbers[:400]


def some_steps(chance, things):
    numbers = []
    for _ in range(chance.randrange(9)):
        step = [chance.choice((0, 0, 0, 1, 2)), *sorted(chance.sample(range(max(things, 2)), 2))]
        numbers += step + [chance.randrange(things + 1)] if step[0] == 0 else step
    return numbers


def some_numbers(chance, kind, things):
    if kind == plain.SETS:
        return [chance.randrange(1, 1 << things) for _ in range(chance.randrange(6))]
    return [chance.randrange(5) for _ in range(things if kind == 0 else 2 * things)]


class Plainly(unittest.TestCase):
    def assert_same(self, calls):
        self.assertEqual(answered(calls), plain.answered(calls), calls)


class Relations(Plainly):
    def test_one_behind_another(self):
        # The lower to the third and the third to the higher are told; an end shows that nothing else can be.
        for kind, count in enumerate(plain.COUNTS):
            for near in range(count):
                for far in range(count):
                    can_be = plain.behind(kind, near, far)
                    others = sum(1 << number for number in range(count) if number not in can_be)
                    news = [(0, 2, 1 << near), (2, 1, 1 << far)]
                    proof = cannot([0, 0, 1, 2, 2, 0, 1])
                    self.assertEqual(last(telling(kind, 3, news + [(0, 1, others)]) + [proof]), [0])
                    for number in can_be:
                        only = news + [(0, 1, 1 << number)]
                        self.assertEqual(last(telling(kind, 3, only) + [proof]), [2, 1], (kind, near, far, number))

    def test_of_each_three_things_one_relation_a_pair(self):
        for kind, count in enumerate(plain.COUNTS):
            for number in range(count ** 3):
                told_of = (number % count, number // count % count, number // count // count)
                news = [(*pair, 1 << relation) for pair, relation in zip(plain.pairs(3), told_of)]
                self.assert_same(telling(kind, 3, news) + [own()])

    def test_of_four_things_one_relation_a_pair(self):
        # Every way of moments and sets, and some of spans and places, which have thousands.
        for kind, stride in enumerate((1, 31, 1, 7)):
            for way, numbers in list(plain.ways(kind, 4).items())[::stride]:
                news = [(*pair, 1 << relation) for pair, relation in zip(plain.pairs(4), way)]
                self.assertEqual(last(telling(kind, 4, news) + [own()]), [1, len(numbers)] + numbers, (kind, way))


class Proofs(Plainly):
    def assert_all_same(self, chance, kind, things, news):
        """Own, then proofs made of its own and of none, half of them wrong somewhere."""
        calls = telling(kind, things, news)
        numbers = plain.answered(calls + [own()])[-1][2:402]
        calls += [own(), cannot(numbers), can(numbers)]
        for _ in range(4):
            calls += [cannot(changed(chance, numbers, things)), can(changed(chance, numbers, things))]
        calls += [cannot(some_steps(chance, things)), cannot(some_steps(chance, things))]
        calls += [can(some_numbers(chance, kind, things)), can(some_numbers(chance, kind, things)), own()]
        self.assert_same(calls)

    def test_each_kind_with_each_number_of_things(self):
        chance = random.Random(1)
        for kind in range(4):
            for things, times in ((1, 5), (2, 30), (3, 60), (4, 90)):
                for _ in range(times):
                    self.assert_all_same(chance, kind, things, some_news(chance, kind, things))

    def test_where_cases_are_needed(self):
        chance = random.Random(2)
        for kind, severals in BY_CASES:
            news = [(*pair, several) for pair, several in zip(plain.pairs(4), severals)]
            calls = telling(kind, 4, news)
            proof = last(calls + [own()])
            self.assertEqual(proof[0], 0)
            self.assertEqual(last(calls + [cannot(proof[2:])]), [0])
            for _ in range(7):
                self.assert_all_same(chance, kind, 4, news)

    def test_its_own_proof_is_taken(self):
        chance = random.Random(3)
        for _ in range(600):
            kind, things = chance.randrange(4), chance.randrange(1, 5)
            calls = telling(kind, things, some_news(chance, kind, things))
            proof = last(calls + [own()])
            check = can if proof[0] == 1 else cannot
            self.assertEqual(last(calls + [check(proof[2:])]), [0], calls)


class Lines(Plainly):
    def some_call(self, chance, kind, things, proof):
        number = chance.randrange(20)
        if number == 0:
            return begins(chance.randrange(5), chance.randrange(6))
        if number < 9:
            return told(chance.randrange(5), chance.randrange(things + 1), some_several(chance, kind))
        if number < 13:
            return drop(chance.randrange(8))
        if number < 16:
            return can(changed(chance, proof, things) if number == 13 else some_numbers(chance, kind, things))
        return cannot(changed(chance, proof, things) if number == 16 else some_steps(chance, things))

    def some_line(self, chance):
        kind, things = chance.randrange(4), chance.randrange(1, 5)
        first = some_news(chance, kind, things, most=6)
        proof = plain.answered(telling(kind, things, first) + [own()])[-1][2:402]
        calls = telling(kind, things, first)
        nots = 0
        while len(calls) < 58:
            call = self.some_call(chance, kind, things, proof)
            nots += call[0] == 4
            if call[0] != 4 or nots <= 12:
                calls.append(call)
        calls.insert(chance.randrange(59), own())
        calls.insert(chance.randrange(60), own())
        return calls

    def test_sixty_calls_of_all_six(self):
        chance = random.Random(4)
        for _ in range(60):
            calls = self.some_line(chance)
            self.assertEqual(len(calls), 60)
            self.assert_same(calls)


if __name__ == "__main__":
    unittest.main()
