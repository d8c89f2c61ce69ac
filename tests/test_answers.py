import contextlib
import io
import unittest

from believeddesk.house import answers
from lines import LARGEST, answered, begins, can, cannot, drop, line, own, told


class Unchanging(list):
    """A list that fails as soon as it is to be changed, even for a while."""

    def fail(self, *args, **kwargs):
        raise AssertionError("what is handed in is changed")

    append = extend = insert = pop = remove = clear = reverse = sort = fail
    __setitem__ = __delitem__ = __iadd__ = __imul__ = fail


MIXED = [
    told(0, 1, 1), drop(0), begins(4, 2), begins(1, 3), told(0, 1, 8191), told(2, 1, 8192), told(2, 1, 0),
    drop(2), drop(0), told(1, 0, 5), begins(0, 0), begins(2, 2), told(0, 2, 1), told(0, 1, 31), drop(0),
]
MIXED_ANSWERS = [-1, -2, -1, 0, 0, -1, 1, -2, 1, 1, -1, 0, -1, 0, 0]

# A call of each of the six, and of each thing that can be wrong with it, and what is answered to it.
ALL_SIX = [
    (own(), [1, 0]), (can([]), [0]), (can([0]), [1, 0]), (cannot([]), [3, 0]), (cannot([2, 0, 1]), [1, 0]),
    (begins(0, 3), [0]), (told(0, 1, 1), [0]), (told(1, 2, 1), [1]), (can([0, 1, 2]), [0]), (can([4, 4, 5]), [3, 0]),
    (told(2, 0, 1), [2]), (can([0, 1, 2]), [3, 2]), (can([0, 1]), [1, 0]), (told(2, 0, 8), [-1]),
    (own(), [0, 4, 0, 0, 1, 2, 0, 0, 2, 1, 0, 1, 2, 0, 2, 0, 1]),
    (cannot([0, 0, 1, 2, 2, 0, 1]), [0]), (cannot([0, 0, 1, 2, 2, 0, 2]), [2, 1]), (cannot([0, 0, 1, 2]), [3, 1]),
    (cannot([0, 0, 1, 2, 2, 0, 1, 1, 0, 1]), [4, 2]), (cannot([1, 1, 0]), [1, 0]), (cannot([3, 0, 1]), [-1]),
    (cannot([0, 0, 1]), [-1]), (drop(3), [-2]), (drop(0), [2]), (can([1, 2, 0]), [3, 0]), (can([1, 0, 1]), [3, 1]),
    (can([2, 0, 1]), [0]), (cannot([0, 0, 1, 2, 2, 0, 1]), [2, 1]),
    (begins(1, 2), [0]), (can([0, 1, 3, 3]), [2, 1]), (can([0, 1, 3, 4]), [0]), (begins(2, 2), [0]),
    (told(1, 0, 4), [0]), (can([3, 1]), [0]), (can([0]), [1, 0]), (can([2]), [2, 0]), (can([1]), [2, 1]),
    (can([3]), [3, 0]), (begins(3, 1), [0]), (can([LARGEST, LARGEST]), [0]), (drop(0), [-2]),
]
ALL_SIX_CALLS = [call for call, answer in ALL_SIX]


class Answers(unittest.TestCase):
    def test_one_call(self):
        self.assertEqual(answers([0, 0, 1]), [1, 0])
        self.assertEqual(answers([1, 0, 1, 1]), [1, -1])
        self.assertEqual(answers([2, 0]), [1, -2])

    def test_each_answer_in_order_behind_its_count(self):
        calls = [0, 0, 3, 1, 0, 1, 1, 1, 1, 2, 6, 1, 0, 0, 1, 2, 0, 2, 7]
        self.assertEqual(answers(calls), [1, 0, 1, 0, 1, 1, 1, -1, 1, 1, 1, -2])

    def test_all_three_calls_mixed_with_refusals(self):
        expected = line([[1, number] for number in MIXED_ANSWERS])
        self.assertEqual(answers(line(MIXED)), expected)

    def test_all_six_calls(self):
        expected = line([[len(answer)] + answer for call, answer in ALL_SIX])
        self.assertEqual(answers(line(ALL_SIX_CALLS)), expected)

    def test_a_row_has_its_count_ahead_of_it(self):
        self.assertEqual(answers([4, 0]), [2, 3, 0])
        self.assertEqual(answers([5, 0]), [1, 0])
        self.assertEqual(answers([5, 0, 4, 0, 3]), [1, 0, 2, 3, 0, 2, 1, 0])
        # What stands in a row is no call, whatever it looks like.
        self.assertEqual(answers([0, 0, 2, 5, 3, 0, 0, 3, 4, 3, 2, 0, 1, 3]), [1, 0, 2, 1, 0, 2, 2, 0, 4, 1, 2, 0, 1])

    def test_the_longest_list(self):
        rows = [cannot([0, 0, 1, 2] * 100)] * 12 + [can([1] * 400)] * 45
        calls = [begins(2, 3)] + rows + [own(), own()]
        self.assertEqual(len(calls), 60)
        expected = [[0]] + [[3, 100]] * 12 + [[2, 1]] * 45 + [[1, 3, 1, 2, 4]] * 2
        self.assertEqual(answered(calls), expected)

    def test_sixty_calls(self):
        calls = [begins(0, 2)] + [told(0, 1, 7)] * 10 + [told(0, 1, 7), drop(9)] * 24 + [drop(0)]
        self.assertEqual(len(calls), 60)
        # The first round finds ten told; each later one tells the tenth again and drops it.
        expected = [0] + list(range(10)) + [-7, 9] + [9, 9] * 23 + [8]
        self.assertEqual(answers(line(calls)), line([[1, number] for number in expected]))

    def test_gives_back_plain_whole_numbers(self):
        for calls in (MIXED, ALL_SIX_CALLS):
            given = answers(line(calls))
            self.assertIs(type(given), list)
            self.assertEqual({type(number) for number in given}, {int})


class Kept(unittest.TestCase):
    lists = (line(MIXED), line(ALL_SIX_CALLS))

    def test_what_is_handed_in_is_as_it_was(self):
        for calls in self.lists:
            before = list(calls)
            answers(calls)
            self.assertEqual(calls, before)

    def test_what_is_handed_in_is_not_changed_for_a_while_either(self):
        for calls in self.lists:
            self.assertEqual(answers(Unchanging(calls)), answers(calls))

    def test_twice_gives_the_same(self):
        for calls in self.lists:
            self.assertEqual(answers(calls), answers(calls))

    def test_nothing_is_kept_from_one_time_to_the_next(self):
        answers(line([begins(1, 4), told(0, 1, 8191), told(2, 3, 1)]))
        self.assertEqual(answers(line([told(0, 1, 1), drop(0)])), [1, -1, 1, -2])

    def test_what_is_given_back_is_new_each_time(self):
        for calls in self.lists:
            first = answers(calls)
            second = list(first)
            first.clear()
            self.assertEqual(answers(calls), second)

    def test_a_house_with_no_proof_leaves_nothing_for_the_next(self):
        answers(line([begins(0, 2), told(0, 1, 0), own(), cannot([2, 0, 1])]))
        self.assertEqual(answered([begins(0, 2), own(), cannot([2, 0, 1])]), [[0], [1, 2, 0, 1], [2, 0]])

    def test_nothing_is_printed(self):
        out = io.StringIO()
        with contextlib.redirect_stdout(out), contextlib.redirect_stderr(out):
            answers(line(MIXED))
            answers(line(ALL_SIX_CALLS))
        self.assertEqual(out.getvalue(), "")


if __name__ == "__main__":
    unittest.main()
