import contextlib
import io
import unittest

from believeddesk.house import answers
from lines import begins, drop, line, told


class Unchanging(list):
    """A list that fails as soon as it is to be changed, even for a while."""

    def fail(self, *args, **kwargs):
        raise AssertionError("what is handed in is changed")

    append = extend = insert = pop = remove = clear = reverse = sort = fail
    __setitem__ = __delitem__ = __iadd__ = __imul__ = fail


MIXED = [
    told(0, 1, 1), drop(0), begins(4, 2), begins(1, 3), told(0, 1, 8191), told(2, 1, 8192), told(2, 1, 0),
    drop(2), drop(0), told(1, 0, 5), begins(0, 0), begins(2, 2), told(0, 2, 1), told(0, 1, 31), drop(0),
]
MIXED_ANSWERS = [-1, -2, -1, 0, 0, -1, 1, -2, 1, 1, -1, 0, -1, 0, 0]


class Answers(unittest.TestCase):
    def test_one_call(self):
        self.assertEqual(answers([0, 0, 1]), [1, 0])
        self.assertEqual(answers([1, 0, 1, 1]), [1, -1])
        self.assertEqual(answers([2, 0]), [1, -2])

    def test_each_answer_in_order_behind_its_count(self):
        calls = [0, 0, 3, 1, 0, 1, 1, 1, 1, 2, 6, 1, 0, 0, 1, 2, 0, 2, 7]
        self.assertEqual(answers(calls), [1, 0, 1, 0, 1, 1, 1, -1, 1, 1, 1, -2])

    def test_all_three_calls_mixed_with_refusals(self):
        expected = line([[1, number] for number in MIXED_ANSWERS])
        self.assertEqual(answers(line(MIXED)), expected)

    def test_sixty_calls(self):
        calls = [begins(0, 2)] + [told(0, 1, 7)] * 10 + [told(0, 1, 7), drop(9)] * 24 + [drop(0)]
        self.assertEqual(len(calls), 60)
        # The first round finds ten told; each later one tells the tenth again and drops it.
        expected = [0] + list(range(10)) + [-7, 9] + [9, 9] * 23 + [8]
        self.assertEqual(answers(line(calls)), line([[1, number] for number in expected]))

    def test_gives_back_plain_whole_numbers(self):
        given = answers(line(MIXED))
        self.assertIs(type(given), list)
        self.assertEqual({type(number) for number in given}, {int})


class Kept(unittest.TestCase):
    def test_what_is_handed_in_is_as_it_was(self):
        calls = line(MIXED)
        before = list(calls)
        answers(calls)
        self.assertEqual(calls, before)

    def test_what_is_handed_in_is_not_changed_for_a_while_either(self):
        self.assertEqual(answers(Unchanging(line(MIXED))), answers(line(MIXED)))

    def test_twice_gives_the_same(self):
        calls = line(MIXED)
        self.assertEqual(answers(calls), answers(calls))

    def test_nothing_is_kept_from_one_time_to_the_next(self):
        answers(line([begins(1, 4), told(0, 1, 8191), told(2, 3, 1)]))
        self.assertEqual(answers(line([told(0, 1, 1), drop(0)])), [1, -1, 1, -2])

    def test_what_is_given_back_is_new_each_time(self):
        calls = line(MIXED)
        first = answers(calls)
        second = list(first)
        first.clear()
        self.assertEqual(answers(calls), second)

    def test_nothing_is_printed(self):
        out = io.StringIO()
        with contextlib.redirect_stdout(out), contextlib.redirect_stderr(out):
            answers(line(MIXED))
        self.assertEqual(out.getvalue(), "")


if __name__ == "__main__":
    unittest.main()
