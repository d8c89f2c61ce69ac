import unittest

from believeddesk.house import House
from lines import LARGEST, LARGEST_SEVERAL, begins, drop, firsts, told


class Ordinary(unittest.TestCase):
    def test_news_are_numbered_from_0(self):
        calls = [begins(0, 3), told(0, 1, 1), told(1, 2, 3), told(0, 2, 7)]
        self.assertEqual(firsts(calls), [0, 0, 1, 2])

    def test_of_each_two_different_things_either_way_round(self):
        pairs = [(i, j) for i in range(4) for j in range(4) if i != j]
        for kind in range(4):
            for i, j in pairs:
                with self.subTest(kind=kind, i=i, j=j):
                    self.assertEqual(firsts([begins(kind, 4), told(i, j, 1)]), [0, 0])

    def test_the_same_news_twice_are_two(self):
        self.assertEqual(firsts([begins(0, 2), told(0, 1, 2), told(0, 1, 2)]), [0, 0, 1])

    def test_each_number_of_several_that_a_kind_has(self):
        for kind, largest in enumerate(LARGEST_SEVERAL):
            for several in range(largest + 1):
                self.assertEqual(firsts([begins(kind, 2), told(0, 1, several)]), [0, 0], (kind, several))

    def test_several_0_is_let(self):
        for kind in range(4):
            with self.subTest(kind=kind):
                self.assertEqual(firsts([begins(kind, 2), told(0, 1, 0), told(1, 0, 0)]), [0, 0, 1])

    def test_the_house_holds_the_news_as_they_were_told(self):
        house = House()
        house.begins(3, 4)
        self.assertEqual(house.told(3, 1, 511), [0])
        self.assertEqual(house.told(0, 2, 0), [1])
        self.assertEqual(house.news, [(3, 1, 511), (0, 2, 0)])


class Refused(unittest.TestCase):
    def assert_refused(self, kind, things, wrong):
        """-1, and what is told next is the second news, as if nothing had been between."""
        with self.subTest(kind=kind, things=things, wrong=wrong):
            calls = [begins(kind, things), told(0, 1, 1), told(*wrong), told(0, 1, 1), drop(2), drop(1)]
            self.assertEqual(firsts(calls), [0, 0, -1, 1, -2, 1])

    def test_the_same_thing_twice(self):
        for kind in range(4):
            for things in range(2, 5):
                for thing in range(things):
                    self.assert_refused(kind, things, (thing, thing, 1))

    def test_a_thing_that_there_is_not(self):
        for kind in range(4):
            for things in range(2, 5):
                for missing in (things, things + 1, LARGEST):
                    self.assert_refused(kind, things, (0, missing, 1))
                    self.assert_refused(kind, things, (missing, 0, 1))
                    self.assert_refused(kind, things, (missing, missing, 1))

    def test_the_largest_number_in_all_places(self):
        self.assert_refused(1, 4, (LARGEST, LARGEST, LARGEST))
        self.assert_refused(1, 4, (LARGEST, LARGEST - 1, 1))

    def test_several_that_the_kind_has_not(self):
        for kind, largest in enumerate(LARGEST_SEVERAL):
            for several in (largest + 1, largest + 2, 2 * largest + 1, 2 * largest + 2, LARGEST):
                self.assert_refused(kind, 2, (0, 1, several))
                self.assert_refused(kind, 2, (1, 0, several))

    def test_before_there_are_things(self):
        for wrong in ((0, 1, 1), (1, 0, 7), (0, 0, 1), (0, 1, 0), (0, LARGEST, 1), (LARGEST, 0, 1), (0, 1, LARGEST)):
            with self.subTest(wrong=wrong):
                self.assertEqual(firsts([told(*wrong), drop(0), begins(0, 2), told(0, 1, 1)]), [-1, -2, 0, 0])

    def test_the_house_holds_what_it_held(self):
        for wrong in ((0, 0, 1), (0, 3, 1), (3, 0, 1), (0, 1, 32), (LARGEST, 1, 1), (0, LARGEST, 1), (0, 1, LARGEST)):
            with self.subTest(wrong=wrong):
                house = House()
                house.begins(2, 3)
                house.told(1, 2, 31)
                self.assertEqual(house.told(*wrong), [-1])
                self.assertEqual((house.kind, house.things, house.news), (2, 3, [(1, 2, 31)]))


class Full(unittest.TestCase):
    def test_a_tenth_is_told_an_eleventh_is_not(self):
        for kind in range(4):
            with self.subTest(kind=kind):
                calls = [begins(kind, 2)] + [told(0, 1, 1)] * 12
                self.assertEqual(firsts(calls), [0] + list(range(10)) + [-7, -7])

    def test_all_is_as_it_was_then(self):
        house = House()
        house.begins(0, 4)
        for several in (1, 2, 3, 4, 5, 6, 7, 0, 1, 2):
            house.told(0, 1, several)
        before = list(house.news)
        self.assertEqual(house.told(2, 3, 7), [-7])
        self.assertEqual((house.kind, house.things, house.news), (0, 4, before))

    def test_once_one_is_dropped_another_can_be_told(self):
        calls = [begins(0, 2)] + [told(0, 1, 1)] * 10 + [told(0, 1, 1), drop(4), told(1, 0, 1), told(1, 0, 1)]
        self.assertEqual(firsts(calls), [0] + list(range(10)) + [-7, 9, 9, -7])

    def test_what_there_is_not_is_refused_as_such_even_then(self):
        for wrong in ((0, 0, 1), (0, 2, 1), (2, 0, 1), (0, 1, 8), (LARGEST, LARGEST, LARGEST)):
            with self.subTest(wrong=wrong):
                calls = [begins(0, 2)] + [told(0, 1, 1)] * 10 + [told(*wrong)]
                self.assertEqual(firsts(calls)[-1], -1)


if __name__ == "__main__":
    unittest.main()
