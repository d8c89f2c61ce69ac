import unittest

from believeddesk.house import House
from lines import answered, begins, can, cannot, drop, flat, last, own, telling, told
from pictures import PICTURES, TURNED_PICTURES

ORDER = ((0, 1), (0, 2), (1, 2), (0, 3), (1, 3), (2, 3))

# What is told of each pair, in their order, and the steps that then prove that it can't all be so. These steps were
# written down from the program's answers, not worked out by hand; test_plain.py holds the same news against the words.
SPANS_BY_CASES = (
    (36, 68, 384, 1664, 256, 2176),
    [(1, 0, 1),
     (0, 0, 2, 1), (0, 0, 3, 1), (0, 0, 2, 3), (0, 0, 1, 2), (0, 1, 2, 0), (0, 0, 3, 1), (0, 1, 3, 0), (0, 2, 3, 0),
     (2, 0, 1),
     (0, 0, 2, 1), (0, 1, 2, 0), (0, 0, 3, 1), (0, 0, 2, 3), (0, 0, 1, 2), (0, 1, 2, 0), (0, 0, 3, 1), (0, 1, 3, 0),
     (0, 2, 3, 0), (2, 0, 1)],
)
PLACES_BY_CASES = (
    (264, 258, 68, 160, 40, 130),
    [(1, 0, 1),
     (0, 0, 2, 1), (0, 1, 2, 0), (0, 0, 3, 1), (0, 0, 2, 3), (0, 0, 1, 2), (0, 1, 2, 0), (0, 0, 3, 1), (0, 1, 3, 0),
     (0, 2, 3, 0), (2, 0, 1),
     (0, 0, 2, 1), (0, 0, 3, 1), (0, 0, 2, 3), (0, 0, 1, 2), (0, 1, 2, 0), (0, 0, 3, 1), (0, 1, 3, 0), (0, 2, 3, 0),
     (2, 0, 1)],
)
SPANS_BY_CASES_WITHIN = (
    (1056, 646, 257, 1638, 1666, 2054),
    [(1, 0, 1),
     (0, 0, 2, 1), (0, 1, 2, 0), (0, 0, 3, 1), (0, 0, 2, 3), (0, 0, 1, 2), (0, 1, 2, 0), (0, 0, 3, 1), (0, 1, 3, 0),
     (0, 2, 3, 0), (2, 0, 1),
     (0, 0, 3, 1), (0, 0, 2, 3),
     (1, 0, 2),
     (0, 1, 2, 0), (0, 1, 3, 2), (0, 0, 3, 1), (0, 2, 3, 0), (0, 1, 2, 3), (0, 0, 1, 2), (0, 0, 2, 1), (0, 0, 3, 1),
     (0, 1, 3, 0), (0, 2, 3, 0), (2, 0, 1),
     (0, 1, 2, 0), (0, 1, 3, 2), (0, 0, 3, 1), (0, 2, 3, 0), (0, 1, 2, 3), (0, 0, 1, 2), (0, 0, 2, 1), (0, 0, 3, 1),
     (0, 1, 3, 0), (0, 2, 3, 0), (2, 0, 1),
     (0, 1, 2, 0), (0, 0, 3, 2), (0, 1, 3, 0), (0, 1, 2, 3), (0, 0, 1, 2), (0, 0, 2, 1), (0, 0, 3, 1), (0, 1, 3, 0),
     (0, 2, 3, 0), (2, 0, 1)],
)


def of_pairs(severals):
    return [(*pair, several) for pair, several in zip(ORDER, severals)]


def it_can(numbers):
    return [1, len(numbers)] + list(numbers)


def it_cannot(steps):
    return [0, len(steps)] + flat(steps)


class Own(unittest.TestCase):
    def assert_can(self, kind, things, news, numbers):
        """That picture, which is taken as a proof, too."""
        with self.subTest(kind=kind, things=things, news=news):
            calls = telling(kind, things, news) + [own(), can(numbers)]
            self.assertEqual(answered(calls)[-2:], [it_can(numbers), [0]])

    def assert_cannot(self, kind, things, news, steps):
        """Those steps, which are taken as a proof, too."""
        with self.subTest(kind=kind, things=things, news=news):
            calls = telling(kind, things, news) + [own(), cannot(flat(steps))]
            self.assertEqual(answered(calls)[-2:], [it_cannot(steps), [0]])


class NothingTold(Own):
    def test_no_things(self):
        self.assertEqual(answered([own()]), [[1, 0]])
        self.assertEqual(answered([begins(2, 5), own()]), [[-1], [1, 0]])

    def test_one_thing(self):
        for kind, numbers in enumerate(([0], [0, 1], [1], [0, 0])):
            self.assert_can(kind, 1, [], numbers)

    def test_two_three_and_four_things(self):
        for things in (2, 3, 4):
            self.assert_can(0, things, [], list(range(things)))
            self.assert_can(1, things, [], list(range(2 * things)))
            self.assert_can(2, things, [], [1, 2, 4, 8][:things])
            self.assert_can(3, things, [], [0, 0, 1, 1, 2, 2, 3, 3][:2 * things])


class TwoThings(Own):
    def test_each_relation(self):
        for kind, pictures in enumerate(PICTURES):
            for relation, numbers in enumerate(pictures):
                self.assert_can(kind, 2, [(0, 1, 1 << relation)], numbers)

    def test_each_relation_told_of_the_higher_thing_first(self):
        for kind, pictures in enumerate(TURNED_PICTURES):
            for relation, numbers in enumerate(pictures):
                self.assert_can(kind, 2, [(1, 0, 1 << relation)], numbers)

    def test_the_first_of_several(self):
        for kind, pictures in enumerate(PICTURES):
            above = 1 << len(pictures)
            for relation, numbers in enumerate(pictures):
                self.assert_can(kind, 2, [(0, 1, above - (1 << relation))], numbers)

    def test_first_is_by_the_lower_thing_to_the_higher_one(self):
        # Turned round, the highest of these becomes the lowest.
        self.assert_can(0, 2, [(1, 0, 6)], [0, 1])
        self.assert_can(1, 2, [(1, 0, 8 + 256)], [1, 2, 0, 3])
        self.assert_can(2, 2, [(1, 0, 4 + 16)], [2, 3])
        self.assert_can(3, 2, [(1, 0, 2 + 64)], [0, 1, 1, 0])

    def test_several_news_of_one_pair(self):
        self.assert_can(0, 2, [(0, 1, 6), (0, 1, 3)], [0, 0])
        self.assert_can(0, 2, [(0, 1, 6), (1, 0, 6)], [0, 0])
        self.assert_can(1, 2, [(0, 1, 4095), (1, 0, 1 + 2 + 64), (0, 1, 8128)], [0, 1, 0, 1])
        self.assert_can(2, 2, [(0, 1, 30), (0, 1, 29), (1, 0, 15)], [3])
        self.assert_can(3, 2, [(0, 1, 510), (0, 1, 509), (0, 1, 507)], [0, 0, 0, 1])

    def test_news_that_leave_nothing(self):
        for kind in range(4):
            self.assert_cannot(kind, 2, [(0, 1, 1), (0, 1, 2)], [(2, 0, 1)])
            self.assert_cannot(kind, 2, [(0, 1, 0)], [(2, 0, 1)])
            self.assert_cannot(kind, 2, [(1, 0, 0)], [(2, 0, 1)])
        self.assert_cannot(0, 2, [(0, 1, 1), (1, 0, 1)], [(2, 0, 1)])
        self.assert_cannot(2, 2, [(0, 1, 4), (1, 0, 4)], [(2, 0, 1)])


class MoreThings(Own):
    def test_the_first_way_of_moments(self):
        self.assert_can(0, 3, [(0, 1, 4)], [1, 0, 2])
        self.assert_can(0, 3, [(0, 1, 6)], [0, 0, 1])
        self.assert_can(0, 3, [(0, 1, 4), (0, 2, 6)], [1, 0, 1])
        self.assert_can(0, 3, [(0, 2, 6), (1, 2, 6)], [0, 1, 0])
        self.assert_can(0, 4, [(3, 0, 1), (2, 3, 1)], [2, 3, 0, 1])
        self.assert_can(0, 4, [(0, 3, 2), (1, 2, 2)], [0, 1, 1, 0])

    def test_the_first_way_of_spans(self):
        self.assert_can(1, 3, [(0, 1, 2), (1, 2, 2)], [0, 1, 1, 2, 2, 3])
        self.assert_can(1, 3, [(0, 2, 16), (1, 2, 16)], [1, 2, 3, 4, 0, 5])
        self.assert_can(1, 3, [(0, 1, 256), (2, 1, 256)], [0, 4, 2, 3, 1, 5])
        self.assert_can(1, 4, [(0, 1, 64), (1, 2, 64), (2, 3, 64)], [0, 1] * 4)
        self.assert_can(1, 4, [(1, 0, 16), (2, 1, 16), (3, 2, 16)], [0, 7, 1, 6, 2, 5, 3, 4])

    def test_the_first_way_of_sets(self):
        # All of 0 is in 1 and all of 1 in 2: no cell is in a part and not in its whole.
        self.assert_can(2, 3, [(0, 1, 4), (1, 2, 4)], [4, 6, 7])
        self.assert_can(2, 3, [(0, 1, 2), (0, 2, 2), (1, 2, 2)], [1, 2, 3, 4, 5, 6, 7])
        self.assert_can(2, 3, [(0, 1, 2)], [1, 2, 3, 4])
        self.assert_can(2, 4, [(0, 1, 8), (2, 3, 8)], [3, 12])
        self.assert_can(2, 4, of_pairs([2] * 6), list(range(1, 16)))
        self.assert_can(2, 4, [(3, 0, 16), (3, 1, 16), (3, 2, 16)], [8, 9, 10, 12])

    def test_the_first_way_of_places(self):
        self.assert_can(3, 3, [(0, 1, 256), (1, 2, 256)], [2, 2, 1, 1, 0, 0])
        self.assert_can(3, 3, [(0, 1, 4), (1, 2, 64)], [0, 1, 2, 0, 1, 2])
        self.assert_can(3, 4, [(0, 1, 16), (2, 3, 16)], [0, 0, 0, 0, 1, 1, 1, 1])
        self.assert_can(3, 4, [(1, 0, 8), (2, 1, 8), (3, 2, 8)], [0, 3, 0, 2, 0, 1, 0, 0])

    def test_a_way_is_found_where_the_first_cases_have_none(self):
        # Only the last relation left of the first pair has a way.
        self.assert_can(0, 3, [(0, 2, 4), (1, 2, 1)], [2, 0, 1])
        self.assert_can(1, 3, [(0, 2, 4096), (1, 2, 1)], [4, 5, 0, 1, 2, 3])
        self.assert_can(2, 3, [(0, 2, 8), (1, 2, 4)], [5, 7])

    def test_by_three_where_it_goes_round(self):
        steps = [(0, 0, 1, 2), (0, 0, 2, 1), (0, 1, 2, 0), (2, 0, 1)]
        self.assert_cannot(0, 3, [(0, 1, 1), (1, 2, 1), (2, 0, 1)], steps)
        self.assert_cannot(1, 3, [(0, 1, 1), (1, 2, 1), (2, 0, 1)], steps)
        self.assert_cannot(2, 3, [(0, 1, 4), (1, 2, 4), (2, 0, 4)], steps)
        self.assert_cannot(3, 3, [(0, 1, 1), (1, 2, 1), (2, 0, 1)], steps)

    def test_by_three_where_less_is_left_before_nothing_is(self):
        steps = [(0, 0, 2, 1), (0, 0, 2, 3), (0, 0, 1, 2), (0, 1, 2, 0), (0, 0, 3, 1), (0, 1, 3, 0), (0, 2, 3, 0),
                 (2, 0, 1)]
        self.assert_cannot(0, 4, [(0, 1, 1), (1, 2, 1), (2, 3, 1), (3, 0, 1)], steps)
        self.assert_cannot(1, 4, [(0, 1, 1), (1, 2, 1), (2, 3, 1), (3, 0, 1)], steps)
        self.assert_cannot(2, 4, [(0, 1, 4), (1, 2, 4), (2, 3, 4), (3, 0, 4)], steps)
        self.assert_cannot(3, 4, [(0, 1, 1), (1, 2, 1), (2, 3, 1), (3, 0, 1)], steps)

    def test_nothing_left_of_one_pair(self):
        for kind in range(4):
            self.assert_cannot(kind, 3, [(0, 1, 0)], [(0, 0, 2, 1), (0, 1, 2, 0), (2, 0, 1)])
            self.assert_cannot(kind, 3, [(2, 0, 0)], [(0, 0, 1, 2), (0, 1, 2, 0), (2, 0, 1)])
            self.assert_cannot(kind, 3, [(1, 2, 0)], [(0, 0, 1, 2), (0, 0, 2, 1), (2, 0, 1)])
            steps = [(0, 0, 2, 3), (0, 0, 1, 2), (0, 1, 2, 0), (0, 0, 3, 1), (0, 1, 3, 0), (2, 0, 1)]
            self.assert_cannot(kind, 4, [(2, 3, 0)], steps)

    def test_nothing_left_of_any_pair(self):
        for kind in range(4):
            for things, count in ((3, 3), (4, 6)):
                self.assert_cannot(kind, things, of_pairs([0] * count), [(2, 0, 1)])

    def test_cases(self):
        self.assert_cannot(1, 4, of_pairs(SPANS_BY_CASES[0]), SPANS_BY_CASES[1])
        self.assert_cannot(3, 4, of_pairs(PLACES_BY_CASES[0]), PLACES_BY_CASES[1])

    def test_cases_within_cases(self):
        self.assert_cannot(1, 4, of_pairs(SPANS_BY_CASES_WITHIN[0]), SPANS_BY_CASES_WITHIN[1])


class Left(unittest.TestCase):
    def test_the_same_twice(self):
        for news in ([], [(0, 1, 1), (1, 2, 1), (2, 0, 1)]):
            with self.subTest(news=news):
                both = answered(telling(0, 3, news) + [own(), own()])[-2:]
                self.assertEqual(both[0], both[1])

    def test_the_house_is_as_it_was(self):
        for news in ([(0, 1, 6), (2, 1, 3)], [(0, 1, 1), (1, 2, 1), (2, 0, 1)], [(0, 1, 0)]):
            with self.subTest(news=news):
                house = House()
                house.begins(0, 3)
                for each in news:
                    house.told(*each)
                house.own()
                self.assertEqual((house.kind, house.things, house.news), (0, 3, news))

    def test_it_goes_by_what_is_told_then(self):
        calls = telling(0, 3, [(0, 1, 1), (1, 2, 1), (2, 0, 1)]) + [own(), drop(1), own()]
        self.assertEqual(answered(calls)[-3:], [
            it_cannot([(0, 0, 1, 2), (0, 0, 2, 1), (0, 1, 2, 0), (2, 0, 1)]), [2], it_can([1, 2, 0]),
        ])
        self.assertEqual(last([begins(0, 2), told(0, 1, 0), begins(1, 2), own()]), it_can([0, 1, 2, 3]))

    def test_refused_news_leave_it_as_it_was(self):
        calls = [begins(0, 2), told(0, 1, 4), told(0, 1, 8), told(0, 0, 0), told(0, 2, 0), begins(4, 2), own()]
        self.assertEqual(last(calls), it_can([1, 0]))


if __name__ == "__main__":
    unittest.main()
