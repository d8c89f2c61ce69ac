import unittest

from believeddesk.house import House
from lines import LARGEST, begins, drop, firsts, told

THREE = [(0, 1, 1), (1, 2, 2), (2, 0, 4)]


def house_told(news):
    house = House()
    house.begins(0, 3)
    for first, other, several in news:
        house.told(first, other, several)
    return house


class Ordinary(unittest.TestCase):
    def test_answers_how_many_there_are_then(self):
        for which in range(3):
            with self.subTest(which=which):
                calls = [begins(0, 3)] + [told(*news) for news in THREE] + [drop(which)]
                self.assertEqual(firsts(calls), [0, 0, 1, 2, 2])

    def test_the_one_and_only(self):
        calls = [begins(0, 2), told(0, 1, 1), drop(0), drop(0), told(0, 1, 1)]
        self.assertEqual(firsts(calls), [0, 0, 0, -2, 0])

    def test_those_behind_it_move_up(self):
        left = {0: [THREE[1], THREE[2]], 1: [THREE[0], THREE[2]], 2: [THREE[0], THREE[1]]}
        for which, news in left.items():
            with self.subTest(which=which):
                house = house_told(THREE)
                self.assertEqual(house.drop(which), [2])
                self.assertEqual(house.news, news)

    def test_the_last_number_is_free_after_a_drop(self):
        for which in range(3):
            with self.subTest(which=which):
                calls = [begins(0, 3)] + [told(*news) for news in THREE] + [drop(which), drop(2), told(0, 1, 7)]
                self.assertEqual(firsts(calls)[4:], [2, -2, 2])

    def test_what_is_told_then_stands_behind_the_others(self):
        house = house_told(THREE)
        house.drop(0)
        self.assertEqual(house.told(0, 2, 7), [2])
        self.assertEqual(house.news, [THREE[1], THREE[2], (0, 2, 7)])

    def test_all_ten_from_the_front_and_from_the_back(self):
        ten = [begins(3, 2)] + [told(0, 1, 256)] * 10
        front = firsts(ten + [drop(0)] * 11)
        back = firsts(ten + [drop(which) for which in range(9, -1, -1)] + [drop(0)])
        expected = [9, 8, 7, 6, 5, 4, 3, 2, 1, 0, -2]
        self.assertEqual(front[11:], expected)
        self.assertEqual(back[11:], expected)

    def test_kind_and_things_stay(self):
        house = house_told(THREE)
        house.drop(1)
        self.assertEqual((house.kind, house.things), (0, 3))


class Refused(unittest.TestCase):
    def test_before_there_are_things(self):
        for which in (0, 1, LARGEST):
            with self.subTest(which=which):
                self.assertEqual(firsts([drop(which)]), [-2])

    def test_where_nothing_is_told(self):
        for which in (0, 1, LARGEST):
            with self.subTest(which=which):
                self.assertEqual(firsts([begins(0, 2), drop(which)]), [0, -2])

    def test_just_behind_the_last(self):
        for count in range(1, 11):
            with self.subTest(count=count):
                some = [begins(0, 2)] + [told(0, 1, 1)] * count
                self.assertEqual(firsts(some + [drop(count)])[-1], -2)
                self.assertEqual(firsts(some + [drop(LARGEST)])[-1], -2)
                self.assertEqual(firsts(some + [drop(count - 1)])[-1], count - 1)

    def test_all_is_as_it_was_then(self):
        for which in (3, 4, LARGEST):
            with self.subTest(which=which):
                house = house_told(THREE)
                self.assertEqual(house.drop(which), [-2])
                self.assertEqual((house.kind, house.things, house.news), (0, 3, THREE))
                calls = [begins(0, 3)] + [told(*news) for news in THREE] + [drop(which), told(0, 1, 1)]
                self.assertEqual(firsts(calls)[4:], [-2, 3])


if __name__ == "__main__":
    unittest.main()
