import unittest

from believeddesk.house import House
from lines import LARGEST, LARGEST_SEVERAL, begins, drop, firsts, told


class Ordinary(unittest.TestCase):
    def test_each_kind_with_each_number_of_things(self):
        for kind in range(4):
            for things in range(1, 5):
                with self.subTest(kind=kind, things=things):
                    self.assertEqual(firsts([begins(kind, things)]), [0])

    def test_there_are_just_as_many_things_as_it_begins_with(self):
        for kind in range(4):
            for things in range(2, 5):
                with self.subTest(kind=kind, things=things):
                    calls = [begins(kind, things), told(0, things - 1, 1), told(0, things, 1)]
                    self.assertEqual(firsts(calls), [0, 0, -1])

    def test_of_one_thing_nothing_can_be_told(self):
        calls = [begins(0, 1), told(0, 0, 1), told(0, 1, 1), told(1, 0, 1)]
        self.assertEqual(firsts(calls), [0, -1, -1, -1])

    def test_the_kind_is_the_one_it_begins_with(self):
        for kind, largest in enumerate(LARGEST_SEVERAL):
            with self.subTest(kind=kind):
                calls = [begins(kind, 2), told(0, 1, largest), told(0, 1, largest + 1)]
                self.assertEqual(firsts(calls), [0, 0, -1])


class Again(unittest.TestCase):
    def test_no_news_are_told_then(self):
        calls = [begins(0, 2), told(0, 1, 1), told(1, 0, 2), begins(0, 2), drop(0), told(0, 1, 4)]
        self.assertEqual(firsts(calls), [0, 0, 1, 0, -2, 0])

    def test_no_news_are_told_then_where_ten_were(self):
        calls = [begins(0, 2)] + [told(0, 1, 1)] * 11 + [begins(0, 2)] + [told(0, 1, 1)] * 11
        once = [0] + list(range(10)) + [-7]
        self.assertEqual(firsts(calls), once + once)

    def test_kind_and_things_are_the_new_ones(self):
        calls = [begins(1, 4), told(2, 3, 8191), begins(2, 3), told(0, 3, 1), told(0, 1, 32), told(1, 2, 31)]
        self.assertEqual(firsts(calls), [0, 0, 0, -1, -1, 0])


class Refused(unittest.TestCase):
    wrong = [
        (4, 1), (4, 4), (5, 2), (LARGEST, 2),
        (0, 0), (1, 0), (2, 0), (3, 0),
        (0, 5), (1, 5), (2, 5), (3, 5),
        (0, LARGEST), (3, LARGEST), (4, 0), (4, 5), (LARGEST, LARGEST),
    ]

    def test_a_kind_above_3_or_not_1_to_4_things(self):
        for kind, things in self.wrong:
            with self.subTest(kind=kind, things=things):
                self.assertEqual(firsts([begins(kind, things)]), [-1])

    def test_all_is_as_it_was_then(self):
        for kind, things in self.wrong:
            with self.subTest(kind=kind, things=things):
                calls = [begins(2, 3), told(0, 2, 31), begins(kind, things),
                         told(1, 2, 31), told(1, 2, 32), told(0, 3, 1), drop(1)]
                self.assertEqual(firsts(calls), [0, 0, -1, 1, -1, -1, 1])

    def test_the_house_holds_what_it_held(self):
        for kind, things in self.wrong:
            with self.subTest(kind=kind, things=things):
                house = House()
                house.begins(1, 3)
                house.told(2, 0, 4096)
                self.assertEqual(house.begins(kind, things), [-1])
                self.assertEqual((house.kind, house.things, house.news), (1, 3, [(2, 0, 4096)]))

    def test_a_new_house_still_has_no_things(self):
        for kind, things in self.wrong:
            with self.subTest(kind=kind, things=things):
                self.assertEqual(firsts([begins(kind, things), told(0, 1, 1), drop(0)]), [-1, -1, -2])


if __name__ == "__main__":
    unittest.main()
