import unittest

from believeddesk.house import House
from lines import LARGEST, answered, begins, can, drop, last, own, telling, told
from pictures import PICTURES, TURNED_PICTURES


class Can(unittest.TestCase):
    def assert_answers(self, kind, things, news, numbers, answer):
        with self.subTest(kind=kind, things=things, news=news, numbers=numbers):
            self.assertEqual(last(telling(kind, things, news) + [can(numbers)]), answer)


class Proved(Can):
    def test_no_things(self):
        self.assertEqual(last([can([])]), [0])

    def test_one_thing(self):
        self.assert_answers(0, 1, [], [7], [0])
        self.assert_answers(1, 1, [], [7, 9], [0])
        self.assert_answers(2, 1, [], [1], [0])
        self.assert_answers(3, 1, [], [9, 7], [0])

    def test_numbers_that_are_not_the_least(self):
        self.assert_answers(0, 3, [(0, 1, 1), (1, 2, 1)], [5, 80, LARGEST], [0])
        self.assert_answers(1, 2, [(0, 1, 1)], [10, 20, 30, 40], [0])
        self.assert_answers(1, 2, [(0, 1, 2)], [10, 20, 20, 40], [0])
        self.assert_answers(3, 2, [(0, 1, 4)], [1000, 8, 4000, 6], [0])

    def test_another_way_than_the_first(self):
        self.assert_answers(0, 2, [], [1, 0], [0])
        self.assert_answers(1, 2, [(0, 1, 8191)], [4, 6, 1, 2], [0])
        self.assert_answers(2, 2, [], [3], [0])
        self.assert_answers(3, 2, [(0, 1, 256 + 1)], [4, 4, 3, 3], [0])

    def test_cells_in_any_order_and_twice(self):
        news = [(0, 1, 2)]
        for cells in ([1, 2, 3], [3, 2, 1], [2, 3, 1], [1, 1, 2, 3], [3, 1, 2, 3, 1], [2] * 7 + [1, 3]):
            self.assert_answers(2, 2, news, cells, [0])

    def test_fewer_cells_than_the_picture_has(self):
        self.assert_answers(2, 3, [(0, 1, 2), (1, 2, 2), (0, 2, 2)], [3, 5, 6], [0])
        self.assert_answers(2, 4, [], [15], [0])

    def test_the_largest_number(self):
        self.assert_answers(0, 2, [(0, 1, 2)], [LARGEST, LARGEST], [0])
        self.assert_answers(0, 2, [(0, 1, 1)], [LARGEST - 1, LARGEST], [0])
        self.assert_answers(1, 1, [], [LARGEST - 1, LARGEST], [0])
        self.assert_answers(3, 2, [(0, 1, 128)], [LARGEST, LARGEST, 0, LARGEST], [0])


class EachRelation(Can):
    def test_holds_just_where_it_is_told(self):
        for kind, pictures in enumerate(PICTURES):
            for shown, numbers in enumerate(pictures):
                for relation in range(len(pictures)):
                    answer = [0] if relation == shown else [3, 0]
                    self.assert_answers(kind, 2, [(0, 1, 1 << relation)], numbers, answer)

    def test_told_of_the_higher_thing_first(self):
        for kind, pictures in enumerate(TURNED_PICTURES):
            for shown, numbers in enumerate(pictures):
                for relation in range(len(pictures)):
                    answer = [0] if relation == shown else [3, 0]
                    self.assert_answers(kind, 2, [(1, 0, 1 << relation)], numbers, answer)

    def test_one_of_several(self):
        for kind, pictures in enumerate(PICTURES):
            every = (1 << len(pictures)) - 1
            for shown, numbers in enumerate(pictures):
                self.assert_answers(kind, 2, [(0, 1, every)], numbers, [0])
                self.assert_answers(kind, 2, [(0, 1, every - (1 << shown))], numbers, [3, 0])

    def test_spans_far_from_each_other(self):
        # The same relations where the marks between are further apart.
        self.assert_answers(1, 2, [(0, 1, 4)], [3, 50, 49, 51], [0])
        self.assert_answers(1, 2, [(0, 1, 16)], [30, 31, 3, 90], [0])
        self.assert_answers(1, 2, [(0, 1, 1024)], [8, 90, 3, 9], [0])
        self.assert_answers(1, 2, [(0, 1, 4096)], [9, 90, 3, 8], [0])


class WrongNumbers(Can):
    def test_not_as_many_numbers_as_marks(self):
        for kind, count in ((0, 1), (1, 2), (3, 2)):
            for things in (1, 2, 3, 4):
                marks = count * things
                for size in (0, marks - 1, marks + 1, 2 * marks, 400):
                    self.assert_answers(kind, things, [], list(range(size)), [1, 0])
                self.assert_answers(kind, things, [], list(range(marks)), [0])

    def test_of_no_things(self):
        self.assertEqual(last([can([0])]), [1, 0])
        self.assertEqual(last([can([LARGEST])]), [1, 0])
        self.assertEqual(last([can([0] * 400)]), [1, 0])

    def test_a_cell_0(self):
        for cells in ([0], [0, 1, 2], [1, 0, 2], [1, 2, 0], [3, 0], [0] * 400):
            self.assert_answers(2, 2, [], cells, [1, 0])

    def test_a_cell_of_a_set_that_there_is_not(self):
        for things in (1, 2, 3, 4):
            every = (1 << things) - 1
            for cell in (every + 1, every + 2, 2 * every + 1, 2 * every + 2, 256, LARGEST):
                self.assert_answers(2, things, [], [cell], [1, 0])
                self.assert_answers(2, things, [], [every, cell], [1, 0])
                self.assert_answers(2, things, [], [cell, every], [1, 0])
            self.assert_answers(2, things, [], [every], [0])

    def test_it_comes_ahead_of_all_else(self):
        self.assert_answers(0, 2, [(0, 1, 0)], [1, 0, 0], [1, 0])
        self.assert_answers(1, 2, [(0, 1, 1)], [5, 5, 4, 3, 2], [1, 0])
        self.assert_answers(2, 2, [(0, 1, 8)], [1, 4], [1, 0])
        self.assert_answers(2, 2, [(0, 1, 8)], [0], [1, 0])
        self.assert_answers(3, 2, [(0, 1, 1)], [5, 5, 4], [1, 0])


class NotAThing(Can):
    def test_a_span_that_does_not_end_after_it_begins(self):
        for span in ([5, 5], [5, 4], [5, 0], [0, 0], [LARGEST, LARGEST], [LARGEST, 0]):
            for things in (1, 2, 3, 4):
                for thing in range(things):
                    numbers = [0, 1] * thing + span + [0, 1] * (things - thing - 1)
                    self.assert_answers(1, things, [], numbers, [2, thing])

    def test_the_first_such_span(self):
        self.assert_answers(1, 3, [], [0, 1, 2, 2, 3, 1], [2, 1])
        self.assert_answers(1, 3, [], [1, 1, 1, 2, 1, 1], [2, 0])

    def test_an_empty_set(self):
        for things in (1, 2, 3, 4):
            self.assert_answers(2, things, [], [], [2, 0])
            for thing in range(things):
                cells = [1 << other for other in range(things) if other != thing]
                self.assert_answers(2, things, [], cells, [2, thing])

    def test_the_first_such_set(self):
        self.assert_answers(2, 4, [], [1], [2, 1])
        self.assert_answers(2, 4, [], [5, 1, 4], [2, 1])
        self.assert_answers(2, 4, [], [6, 2], [2, 0])

    def test_it_comes_ahead_of_the_news(self):
        self.assert_answers(1, 2, [(0, 1, 0)], [0, 1, 1, 1], [2, 1])
        self.assert_answers(2, 2, [(0, 1, 0)], [1], [2, 1])

    def test_moments_and_places_have_none(self):
        self.assert_answers(0, 2, [], [0, 0], [0])
        self.assert_answers(3, 2, [], [5, 5, 5, 4], [0])


class NewsNotSo(Can):
    def test_the_first_of_several(self):
        news = [(0, 1, 1), (1, 0, 4), (1, 2, 2), (0, 2, 1), (2, 1, 5)]
        self.assert_answers(0, 3, news, [0, 1, 2], [3, 2])
        self.assert_answers(0, 3, news, [0, 1, 1], [3, 4])
        self.assert_answers(0, 3, news, [1, 1, 1], [3, 0])
        self.assert_answers(0, 3, news[:4], [0, 1, 1], [0])

    def test_each_of_ten(self):
        for wrong in range(10):
            news = [(0, 1, 1)] * wrong + [(0, 1, 6)] * (10 - wrong)
            self.assert_answers(0, 2, news, [0, 1], [3, wrong])
        self.assert_answers(0, 2, [(0, 1, 1)] * 10, [0, 1], [0])

    def test_several_0_is_never_so(self):
        for kind, numbers in enumerate(([0, 1], [0, 1, 0, 1], [1, 2], [0, 0, 1, 1])):
            self.assert_answers(kind, 2, [(0, 1, 0)], numbers, [3, 0])
            self.assert_answers(kind, 2, [(1, 0, (8, 8192, 32, 512)[kind] - 1), (1, 0, 0)], numbers, [3, 1])

    def test_of_each_kind_with_four_things(self):
        self.assert_answers(1, 4, [(0, 1, 8191), (3, 2, 1)], [0, 1, 0, 1, 2, 4, 1, 2], [3, 1])
        self.assert_answers(1, 4, [(0, 1, 8191), (3, 2, 2)], [0, 1, 0, 1, 2, 4, 1, 2], [0])
        self.assert_answers(2, 4, [(0, 1, 31), (3, 2, 4)], [3, 12, 4], [0])
        self.assert_answers(2, 4, [(0, 1, 31), (3, 2, 8)], [3, 12, 4], [3, 1])
        self.assert_answers(3, 4, [(0, 1, 511), (3, 2, 64)], [0, 0, 0, 0, 1, 5, 4, 4], [0])
        self.assert_answers(3, 4, [(0, 1, 511), (3, 2, 32)], [0, 0, 0, 0, 1, 5, 4, 4], [3, 1])


class Longest(Can):
    def test_400_cells(self):
        self.assert_answers(2, 2, [(0, 1, 2)], [1, 2, 3, 3] * 100, [0])
        self.assert_answers(2, 2, [(0, 1, 8)], [1, 2, 3, 3] * 100, [3, 0])
        self.assert_answers(2, 2, [(0, 1, 8)], [3] * 400, [0])
        self.assert_answers(2, 2, [(0, 1, 16)], [3] * 399 + [1], [0])
        self.assert_answers(2, 2, [(0, 1, 2)], [1, 2, 3, 3] * 99 + [1, 2, 3, 4], [1, 0])
        self.assert_answers(2, 2, [(0, 1, 2)], [2] * 400, [2, 0])

    def test_400_numbers(self):
        for kind in (0, 1, 3):
            self.assert_answers(kind, 4, [], list(range(400)), [1, 0])
            self.assert_answers(kind, 4, [], [LARGEST] * 400, [1, 0])


class Left(unittest.TestCase):
    some = ([0, 1, 2], [2, 1, 0], [], [0], [1, 1, 1])

    def test_the_house_is_as_it_was(self):
        news = [(0, 1, 1), (1, 2, 1)]
        for numbers in self.some:
            with self.subTest(numbers=numbers):
                house = House()
                house.begins(0, 3)
                for each in news:
                    house.told(*each)
                house.can_by(numbers)
                self.assertEqual((house.kind, house.things, house.news), (0, 3, news))

    def test_what_is_answered_then_is_the_same(self):
        before = telling(0, 3, [(0, 1, 1), (1, 2, 1)])
        behind = [own(), can([3, 5, 8]), told(0, 1, 7), drop(0)]
        expected = answered(before + behind)[-4:]
        for numbers in self.some:
            with self.subTest(numbers=numbers):
                self.assertEqual(answered(before + [can(numbers)] + behind)[-4:], expected)

    def test_it_goes_by_what_is_told_then(self):
        calls = [begins(0, 2), told(0, 1, 1), told(0, 1, 4), can([0, 1]), drop(1), can([0, 1]), begins(0, 1), can([0])]
        self.assertEqual(answered(calls)[3:], [[3, 1], [1], [0], [0], [0]])


if __name__ == "__main__":
    unittest.main()
