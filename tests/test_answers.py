"""answers: how the calls lie in the list, what is given back, and what stays as it was."""

import contextlib
import io
import unittest

from callwriting import alike, form, joined, looks, ring, split_answers, told, turns
from darkkeys.rings import answers

SEVERAL = joined([
    told(), ring(1, [0, 0, 1]), told(), alike(0), alike(3), turns(), looks([0, 1, 0]), looks([1, 1, 0]),
    ring(2, [1]), looks([0]), form(), ring(0, [2, 1]), form(), turns(),
])
SEVERAL_ANSWERED = [
    2, 1, 0, 1, 1, 2, 1, 2, 3, 2, 0, 1, 1, -1, 3, 2, 0, 4, 1, 1, 1, 0,
    1, -1, 1, -1, 4, 3, 0, 0, 1, 1, 2, 3, 2, 1, 2, 2, 1, 0,
]


class Sealed(list):
    """A list that fails as soon as something would change it."""

    def refuse(self, *args, **kwargs):
        raise AssertionError("the list handed in is changed")

    append = extend = insert = pop = remove = clear = sort = reverse = refuse
    __setitem__ = __delitem__ = __iadd__ = __imul__ = refuse


class Lists(unittest.TestCase):
    def test_one_call(self):
        self.assertEqual(answers([1]), [2, 1, 0])
        self.assertEqual(answers([2, 0]), [2, 1, 0])
        self.assertEqual(answers([2, 1]), [1, -1])
        self.assertEqual(answers([3]), [3, 2, 0, 1])
        self.assertEqual(answers([4, 1, 0]), [1, 1])
        self.assertEqual(answers([4, 1, 1]), [1, 0])
        self.assertEqual(answers([4, 0]), [1, -1])
        self.assertEqual(answers([5]), [2, 1, 0])
        self.assertEqual(answers([0, 0, 2, 0, 0]), [1, 0])
        self.assertEqual(answers([0, 0, 0]), [1, -1])

    def test_several_calls_count_by_count(self):
        self.assertEqual(answers(SEVERAL), SEVERAL_ANSWERED)

    def test_a_refused_row_is_passed_over_whole(self):
        row = [1, 3, 5, 0, 2] * 8
        calls = [0, 1, 40] + row + [4, 40] + row + [0, 7, 3, 1, 1, 1] + [5]
        self.assertEqual(answers(calls), [1, -1, 1, -1, 1, -1, 2, 1, 0])

    def test_forty_calls(self):
        one_round = [ring(1, [3, 0, 3]), told(), alike(2), turns(), looks([0, 3, 3]), looks([3, 3, 3]), form(), alike(9)]
        answered = [[1], [1, 1], [2, 0, 2], [2, 0, 5], [1], [0], [3, 0, 3, 3], [-1]]
        self.assertEqual(split_answers(answers(joined(one_round * 5))), answered * 5)

    def test_forty_of_the_longest_calls(self):
        calls = ring(1, [0] * 40) * 40
        self.assertEqual(answers(calls), [1, -1] * 40)

    def test_forty_of_the_longest_answers(self):
        calls = ring(1, [2] * 9) + turns() * 39
        self.assertEqual(answers(calls), [1, 0] + ([19, 18] + list(range(18))) * 39)


class Kinds(unittest.TestCase):
    def test_a_list_of_whole_numbers(self):
        given = answers(SEVERAL)
        self.assertIs(type(given), list)
        self.assertEqual({type(number) for number in given}, {int})


class NothingKept(unittest.TestCase):
    def test_what_is_handed_in_stays(self):
        calls = list(SEVERAL)
        answers(calls)
        self.assertEqual(calls, SEVERAL)

    def test_not_changed_for_a_while_either(self):
        self.assertEqual(answers(Sealed(SEVERAL)), SEVERAL_ANSWERED)

    def test_a_second_asking_answers_the_same(self):
        calls = list(SEVERAL)
        first = answers(calls)
        self.assertEqual(answers(calls), first)
        self.assertEqual(first, SEVERAL_ANSWERED)

    def test_each_time_as_for_the_first_time(self):
        answers(ring(0, [1, 2, 3]))
        self.assertEqual(answers(joined([form(), turns()])), [2, 1, 0, 3, 2, 0, 1])

    def test_changing_what_was_given_back_changes_nothing(self):
        first = answers(SEVERAL)
        first[:] = [7] * len(first)
        self.assertEqual(answers(SEVERAL), SEVERAL_ANSWERED)

    def test_nothing_is_printed(self):
        with contextlib.redirect_stdout(io.StringIO()) as said, contextlib.redirect_stderr(io.StringIO()) as told_off:
            answers(SEVERAL)
        self.assertEqual((said.getvalue(), told_off.getvalue()), ("", ""))


if __name__ == "__main__":
    unittest.main()
