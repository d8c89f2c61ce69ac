import unittest

from believeddesk.house import House
from lines import LARGEST, answered, begins, cannot, drop, flat, last, own, telling, told

# Three moments, each lower than the next and the last lower than the first.
ROUND = [(0, 1, 1), (1, 2, 1), (2, 0, 1)]
PROOF = [(0, 0, 1, 2), (2, 0, 1)]
# The first moment is lower or higher than the second, which is lower than the third, the same as the first.
EITHER = [(0, 1, 5), (0, 2, 2), (1, 2, 1)]


class Not(unittest.TestCase):
    def assert_answers(self, kind, things, news, steps, answer):
        with self.subTest(kind=kind, things=things, news=news, steps=steps):
            self.assertEqual(last(telling(kind, things, news) + [cannot(flat(steps))]), answer)


class Proved(Not):
    def test_by_three_and_an_end(self):
        self.assert_answers(0, 3, ROUND, PROOF, [0])
        self.assert_answers(1, 3, ROUND, PROOF, [0])
        self.assert_answers(3, 3, ROUND, PROOF, [0])
        self.assert_answers(2, 3, [(0, 1, 4), (1, 2, 4), (2, 0, 4)], PROOF, [0])

    def test_by_three_of_each_pair(self):
        for kind in (0, 1, 3):
            self.assert_answers(kind, 3, ROUND, [(0, 0, 2, 1), (2, 0, 2)], [0])
            self.assert_answers(kind, 3, ROUND, [(0, 1, 2, 0), (2, 1, 2)], [0])

    def test_an_end_alone(self):
        for kind in range(4):
            self.assert_answers(kind, 2, [(0, 1, 0)], [(2, 0, 1)], [0])
            self.assert_answers(kind, 4, [(3, 2, 0)], [(2, 2, 3)], [0])
            self.assert_answers(kind, 2, [(0, 1, 1), (0, 1, 2)], [(2, 0, 1)], [0])

    def test_it_need_not_be_the_houses_own(self):
        self.assert_answers(0, 3, ROUND, [(0, 1, 2, 0)] * 3 + [(0, 0, 2, 1), (1, 0, 1), (2, 1, 2)], [0])

    def test_the_table_stays_less(self):
        # The second step goes by what the first has left.
        news = [(0, 1, 1), (1, 2, 1), (2, 3, 1), (3, 0, 1)]
        self.assert_answers(0, 4, news, [(0, 0, 2, 1), (0, 0, 3, 2), (2, 0, 3)], [0])
        self.assert_answers(0, 4, news, [(0, 0, 3, 2), (0, 0, 2, 1), (2, 0, 3)], [2, 2])

    def test_only_the_pair_of_the_step_gets_less(self):
        self.assert_answers(0, 3, ROUND, [(0, 0, 1, 2), (2, 0, 2)], [2, 1])
        self.assert_answers(0, 3, ROUND, [(0, 0, 1, 2), (2, 1, 2)], [2, 1])

    def test_what_nothing_gainsays_is_not_proved_wrong(self):
        for kind in range(4):
            self.assert_answers(kind, 3, [], PROOF, [2, 1])


class Cases(Not):
    def test_of_nothing_there_are_none(self):
        for kind in range(4):
            self.assert_answers(kind, 2, [(0, 1, 0)], [(1, 0, 1)], [0])
            self.assert_answers(kind, 2, [(0, 1, 0)], [(1, 0, 1), (2, 0, 1)], [4, 1])

    def test_of_one(self):
        self.assert_answers(0, 3, ROUND, [(1, 0, 1)] + PROOF, [0])
        self.assert_answers(0, 3, ROUND, [(1, 0, 1), (1, 0, 1), (1, 1, 2)] + PROOF, [0])
        self.assert_answers(0, 3, ROUND, [(1, 0, 1)] + PROOF + PROOF, [4, 3])
        self.assert_answers(0, 2, [(0, 1, 1)], [(1, 0, 1)], [3, 1])
        self.assert_answers(0, 2, [(0, 1, 1)], [(1, 0, 1), (2, 0, 1)], [2, 1])

    def test_of_several(self):
        # Told of the last two is nothing, so that each case of the first two ends at once.
        for kind, count in enumerate((3, 13, 5, 9)):
            news = [(1, 2, 0)]
            for ends in range(count):
                self.assert_answers(kind, 3, news, [(1, 0, 1)] + [(2, 1, 2)] * ends, [3, ends + 1])
            self.assert_answers(kind, 3, news, [(1, 0, 1)] + [(2, 1, 2)] * count, [0])
            self.assert_answers(kind, 3, news, [(1, 0, 1)] + [(2, 1, 2)] * (count + 1), [4, count + 1])

    def test_they_rise(self):
        # Where the first is lower there is nothing left of the first and the third; where it is higher there is.
        once = [(0, 0, 2, 1), (2, 0, 2)]
        self.assert_answers(0, 3, EITHER, [(1, 0, 1)] + once, [3, 3])
        self.assert_answers(0, 3, EITHER, [(1, 0, 1)] + once + once, [2, 4])
        higher_first = [(1, 0, 5), (2, 0, 2), (1, 2, 1)]
        self.assert_answers(0, 3, higher_first, [(1, 0, 1)] + once + once, [2, 4])
        falling = [(0, 1, 5), (0, 2, 2), (1, 2, 4)]
        self.assert_answers(0, 3, falling, [(1, 0, 1)] + once, [2, 2])

    def test_each_begins_with_the_table_as_it_was_at_the_cases(self):
        # What the first case takes from the last pair is there again for the second.
        steps = [(1, 0, 1), (0, 0, 2, 1), (2, 0, 2), (2, 0, 2)]
        self.assert_answers(0, 3, EITHER, steps, [2, 3])
        # What was taken ahead of the cases is gone in each.
        news = [(1, 2, 1), (2, 3, 1), (3, 1, 1)]
        self.assert_answers(0, 4, news, [(0, 1, 2, 3), (1, 0, 1)] + [(2, 1, 2)] * 3, [0])
        self.assert_answers(0, 4, news, [(1, 0, 1), (0, 1, 2, 3)] + [(2, 1, 2)] * 3, [2, 3])

    def test_within_cases(self):
        # Three cases of the first pair with three of the second within each.
        inner = [(1, 0, 2), (2, 1, 2), (2, 1, 2), (2, 1, 2)]
        self.assert_answers(0, 3, [(1, 2, 0)], [(1, 0, 1)] + inner * 3, [0])
        self.assert_answers(0, 3, [(1, 2, 0)], [(1, 0, 1)] + inner * 2, [3, 9])
        self.assert_answers(0, 3, [(1, 2, 0)], [(1, 0, 1)] + inner * 2 + inner[:3], [3, 12])
        self.assert_answers(0, 3, [(1, 2, 0)], [(1, 0, 1)] + inner * 3 + inner, [4, 13])
        mixed = [(1, 0, 1), (2, 1, 2), (1, 1, 2)] + inner
        self.assert_answers(0, 3, [(1, 2, 0)], mixed, [0])
        self.assert_answers(0, 3, [(1, 2, 0)], mixed + [(2, 0, 1)], [4, 7])

    def test_within_cases_each_begins_with_its_own_table(self):
        # The inner case's relation alone is there in it, and the outer one's all the while.
        steps = [(1, 0, 1), (1, 0, 2), (0, 1, 2, 0), (2, 1, 2)]
        self.assert_answers(0, 3, [(0, 1, 1), (0, 2, 6), (1, 2, 1)], steps, [3, 4])
        self.assert_answers(0, 3, [(0, 1, 1), (0, 2, 6), (1, 2, 1)], steps + steps[2:], [0])
        self.assert_answers(0, 3, [(0, 1, 1), (0, 2, 7), (1, 2, 1)], steps, [2, 3])


class Wrong(Not):
    def test_no_such_pair(self):
        wrong = [(0, 3), (2, 3), (3, 4), (1, 0), (2, 0), (2, 1), (3, 0), (0, 0), (1, 1), (2, 2), (3, 3),
                 (0, LARGEST), (LARGEST, 0), (LARGEST, 1), (LARGEST, LARGEST), (LARGEST - 1, LARGEST)]
        for pair in wrong:
            for step in ((0, *pair, 2), (0, *pair, 1), (0, *pair, 0), (1, *pair), (2, *pair)):
                self.assert_answers(0, 3, ROUND, [step], [1, 0])
                self.assert_answers(0, 3, ROUND, PROOF[:1] + [step], [1, 1])

    def test_no_such_third(self):
        for lower, higher in ((0, 1), (0, 2), (1, 2)):
            for third in (lower, higher, 3, 4, LARGEST):
                self.assert_answers(0, 3, ROUND, [(0, lower, higher, third)], [1, 0])
                self.assert_answers(0, 3, ROUND, PROOF[:1] + [(0, lower, higher, third)], [1, 1])

    def test_things_that_there_are_not(self):
        for kind in range(4):
            for things in (2, 3, 4):
                news = [(0, 1, 0)]
                self.assert_answers(kind, things, news, [(2, 0, things)], [1, 0])
                self.assert_answers(kind, things, news, [(1, 0, things)], [1, 0])
                self.assert_answers(kind, things, news, [(0, 0, 1, things)], [1, 0])
                self.assert_answers(kind, things, news, [(0, 0, things, 1)], [1, 0])

    def test_an_end_though_there_is_something(self):
        for kind in range(4):
            self.assert_answers(kind, 2, [], [(2, 0, 1)], [2, 0])
            self.assert_answers(kind, 2, [(0, 1, 1)], [(2, 0, 1)], [2, 0])
            self.assert_answers(kind, 4, [(0, 1, 0)], [(0, 0, 1, 2), (2, 2, 3)], [2, 1])

    def test_they_end_ahead_of_the_proof(self):
        self.assert_answers(0, 3, ROUND, PROOF[:1], [3, 1])
        self.assert_answers(0, 3, ROUND, PROOF[:1] * 5, [3, 5])
        self.assert_answers(0, 3, ROUND, [(1, 0, 1)], [3, 1])
        self.assert_answers(0, 3, [], [(1, 0, 1), (1, 0, 2), (1, 1, 2)], [3, 3])

    def test_no_steps_at_all(self):
        for kind in range(4):
            for things in (1, 2, 3, 4):
                self.assert_answers(kind, things, [], [], [3, 0])
            self.assert_answers(kind, 2, [(0, 1, 0)], [], [3, 0])
        self.assertEqual(last([cannot([])]), [3, 0])

    def test_the_proof_has_ended_ahead(self):
        for step in ((2, 0, 1), (1, 0, 1), (0, 0, 1, 2), (2, 0, 2)):
            self.assert_answers(0, 3, ROUND, PROOF + [step], [4, 2])
            self.assert_answers(0, 3, ROUND, PROOF + [step] * 3, [4, 2])

    def test_of_no_things_and_of_one_there_is_no_proof(self):
        for step in ((0, 0, 1, 2), (1, 0, 1), (2, 0, 1), (2, 0, 0)):
            self.assertEqual(last([cannot(step)]), [1, 0])
            for kind in range(4):
                self.assert_answers(kind, 1, [], [step], [1, 0])


class WrongFirst(Not):
    def test_the_first_one_is_told(self):
        no_pair, no_third, no_end = (2, 1, 0), (0, 0, 1, 1), (2, 0, 2)
        for first, code in ((no_pair, 1), (no_third, 1), (no_end, 2)):
            for behind in (no_pair, no_third, no_end):
                self.assert_answers(0, 3, ROUND, [first, behind], [code, 0])
                self.assert_answers(0, 3, ROUND, PROOF[:1] + [first, behind], [code, 1])
                self.assert_answers(0, 3, ROUND, [(1, 0, 1)] + PROOF[:1] + [first, behind] + PROOF[1:], [code, 2])

    def test_a_wrong_one_is_told_though_the_steps_end_too_early(self):
        self.assert_answers(0, 3, [(0, 1, 3)], [(1, 0, 1), (2, 0, 1)], [2, 1])
        self.assert_answers(0, 3, [(0, 1, 3)], [(1, 0, 1), (0, 0, 2, 2)], [1, 1])

    def test_what_stands_behind_the_end_is_not_looked_at(self):
        for behind in ((2, 1, 0), (0, 0, 1, 1), (2, 0, 2), (1, LARGEST, LARGEST)):
            self.assert_answers(0, 3, ROUND, PROOF + [behind], [4, 2])
            self.assert_answers(0, 3, ROUND, PROOF + [(1, 0, 2), behind], [4, 2])

    def test_no_such_pair_is_told_where_there_is_no_end_either(self):
        self.assert_answers(0, 3, [], [(2, 0, 3)], [1, 0])


class Refused(Not):
    cut = ([0], [0, 0], [0, 0, 1], [1], [1, 0], [2], [2, 0])
    ahead = ([], PROOF[:1], PROOF, PROOF + PROOF, [(2, 0, 1)], [(2, 1, 0)], [(0, 0, 1, 1)], [(1, 0, 1)])

    def assert_refused(self, numbers):
        with self.subTest(numbers=numbers):
            self.assertEqual(last(telling(0, 3, ROUND) + [cannot(numbers)]), [-1])

    def test_a_number_above_2_where_a_step_begins(self):
        for number in (3, 4, 5, 255, 256, LARGEST - 1, LARGEST):
            for steps in self.ahead:
                self.assert_refused(flat(steps) + [number])
                self.assert_refused(flat(steps) + [number, 0, 1])
                self.assert_refused(flat(steps) + [number, 0, 1, 2])
                self.assert_refused(flat(steps) + [number, 0, 1] + flat(PROOF))

    def test_a_last_step_cut_short(self):
        for numbers in self.cut:
            for steps in self.ahead:
                self.assert_refused(flat(steps) + numbers)

    def test_a_last_step_cut_short_with_the_largest_number(self):
        for numbers in ([0, LARGEST], [0, LARGEST, LARGEST], [0, 0, LARGEST], [1, LARGEST], [2, LARGEST]):
            self.assert_refused(numbers)

    def test_one_number_too_many(self):
        for number in (0, 1, 2):
            self.assert_refused(flat(PROOF) + [number])

    def test_whatever_the_house(self):
        for numbers in self.cut + ([3], [LARGEST]):
            self.assertEqual(last([cannot(numbers)]), [-1])
            for kind in range(4):
                for things in (1, 2, 3, 4):
                    self.assertEqual(last([begins(kind, things), cannot(numbers)]), [-1])


class Largest(Not):
    def test_in_each_place(self):
        self.assert_answers(0, 3, ROUND, [(LARGEST, 0, 1, 2)], [-1])
        self.assert_answers(0, 3, ROUND, [(LARGEST,) * 4], [-1])
        for step in ((0, LARGEST, 1, 2), (0, 0, LARGEST, 2), (0, 0, 1, LARGEST), (1, LARGEST, 1), (1, 0, LARGEST),
                     (2, LARGEST, 1), (2, 0, LARGEST), (0, LARGEST, LARGEST, LARGEST)):
            self.assert_answers(0, 3, ROUND, [step], [1, 0])

    def test_400_numbers(self):
        by_three = [(0, 0, 1, 2)] * 97
        self.assert_400([(1, 0, 1)] * 3 + by_three + [(2, 0, 1)], [0])
        self.assert_400([(1, 0, 1)] * 2 + by_three + [(2, 0, 1)] * 2, [4, 100])
        self.assert_400([(1, 0, 1)] * 3 + by_three + [(2, 0, 2)], [2, 100])
        self.assert_400([(1, 0, 1)] * 3 + by_three + [(2, 0, 3)], [1, 100])
        self.assert_400([(0, 0, 1, 2)] * 100, [3, 100])
        self.assert_400(by_three + [(1, 1, 2)] * 4, [3, 101])
        self.assert_400([(2, 0, 1)] * 132 + [(0, 0, 1, 2)], [2, 0])
        self.assert_400([(1, 0, 1)] * 132 + [(0, 0, 1, 2)], [3, 133])
        self.assert_400([(1, 0, 1)] * 133 + [(0,)], [-1])
        self.assert_400([(0, 0, 1, 2)] * 99 + [(1, 0, 1), (3,)], [-1])
        self.assert_400([(LARGEST,) * 400], [-1])

    def assert_400(self, steps, answer):
        self.assertEqual(len(flat(steps)), 400)
        self.assert_answers(0, 3, ROUND, steps, answer)

    def test_cases_nested_deep_that_all_end(self):
        # Each of the three outer cases has as many within one another as fit.
        deep = [(1, 0, 1)] + [(1, 0, 1)] * 42 + [(2, 1, 2)] + [(1, 0, 1)] * 42 + [(2, 1, 2)]
        self.assert_answers(0, 3, [(1, 2, 0)], deep + [(1, 0, 1)] * 42 + [(2, 1, 2)], [0])
        self.assert_answers(0, 3, [(1, 2, 0)], deep + [(1, 0, 1)] * 43, [3, 130])


class Left(unittest.TestCase):
    some = (flat(PROOF), flat(PROOF[:1]), [], [2, 0, 1], [2, 1, 0], flat(PROOF + PROOF), [1, 0, 1], [3], [0, 0])

    def test_the_house_is_as_it_was(self):
        for numbers in self.some:
            with self.subTest(numbers=numbers):
                house = House()
                house.begins(0, 3)
                for each in ROUND:
                    house.told(*each)
                house.cannot_by(numbers)
                self.assertEqual((house.kind, house.things, house.news), (0, 3, ROUND))

    def test_what_is_answered_then_is_the_same(self):
        before = telling(0, 3, ROUND)
        behind = [own(), cannot(flat(PROOF)), told(0, 1, 7), drop(0)]
        expected = answered(before + behind)[-4:]
        for numbers in self.some:
            with self.subTest(numbers=numbers):
                self.assertEqual(answered(before + [cannot(numbers)] + behind)[-4:], expected)

    def test_it_goes_by_what_is_told_then(self):
        calls = telling(0, 3, ROUND) + [cannot(flat(PROOF)), drop(2), cannot(flat(PROOF))]
        self.assertEqual(answered(calls)[-3:], [[0], [2], [2, 1]])


if __name__ == "__main__":
    unittest.main()
