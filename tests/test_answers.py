"""answers: how the calls lie in the list, what is given back, and what stays as it was."""

import contextlib
import io
import unittest

from callwriting import (
    alike, change, felt, fewest, form, joined, looks, ring, split_answers, sure, told, turns, ways,
)
from darkkeys.rings import answers

SEVERAL = joined([
    told(), ring(1, [0, 0, 1]), told(), alike(0), alike(3), turns(), looks([0, 1, 0]), looks([1, 1, 0]),
    ring(2, [1]), looks([0]), form(), ring(0, [2, 1]), form(), turns(),
    felt([2]), felt([2, 1, 2]), felt([1, 1]), felt([]), sure(), fewest(), ways(3), change(2),
])
SEVERAL_ANSWERED = [
    2, 1, 0, 1, 1, 2, 1, 2, 3, 2, 0, 1, 1, -1, 3, 2, 0, 4, 1, 1, 1, 0,
    1, -1, 1, -1, 4, 3, 0, 0, 1, 1, 2, 3, 2, 1, 2, 2, 1, 0,
    2, 1, 0, 2, 1, 0, 1, 0, 1, -1, 1, 1, 3, 2, 0, 1, 2, 6, 3, 3, 1, 0, 1,
]

# A ring of 8 keys with the three longest calls on it, and then all others, 40 calls in all.
EIGHT = [0, 0, 0, 0, 0, 0, 0, 0]
GOOD_EIGHT = [1, 0, 0, 0, 0, 1, 0, 1]
FORTY = [
    ring(1, EIGHT), fewest(), ways(3), change(3), ring(1, GOOD_EIGHT), sure(), form(), told(), turns(), alike(7),
] + [
    felt([1, 1]), felt([0, 1, 1, 0]), felt(GOOD_EIGHT), felt([0] * 21), looks([0, 0, 0, 0, 1, 0, 1, 1]), alike(8),
    ring(1, EIGHT + [0, 0]), told(), sure(), turns(),
] * 3
FORTY_ANSWERED = [
    [0], [2, 0, 0, 0, 0, 1, 0, 1, 1], [5328, 333], [2, 0, 0, 0, 0, 0, 0, 1, 2], [8], [7],
    [8, 0, 0, 0, 0, 1, 0, 1, 1], [8, 0, 1, 2, 3, 4, 5, 6, 7], [1, 0], [1, 7],
] + [
    [2, 0, 7], [2, 1, 6], [1, 7], [-1], [1], [-1], [-1], [8, 0, 1, 2, 3, 4, 5, 6, 7], [7], [1, 0],
] * 3


class Sealed(list):
    """A list that fails as soon as something would change it."""

    def refuse(self, *args, **kwargs):
        raise AssertionError("the list handed in is changed")

    append = extend = insert = pop = remove = clear = sort = reverse = refuse
    __setitem__ = __delitem__ = __iadd__ = __imul__ = refuse


class Lists(unittest.TestCase):
    def test_one_call(self):
        self.assertEqual(answers([1]), [2, 1, 0])
        self.assertEqual(answers([2, 0]), [2, 1, 0])
        self.assertEqual(answers([2, 1]), [1, -1])
        self.assertEqual(answers([3]), [3, 2, 0, 1])
        self.assertEqual(answers([4, 1, 0]), [1, 1])
        self.assertEqual(answers([4, 1, 1]), [1, 0])
        self.assertEqual(answers([4, 0]), [1, -1])
        self.assertEqual(answers([5]), [2, 1, 0])
        self.assertEqual(answers([0, 0, 2, 0, 0]), [1, 0])
        self.assertEqual(answers([0, 0, 0]), [1, -1])
        self.assertEqual(answers([6, 2, 0, 0]), [2, 1, 0])
        self.assertEqual(answers([6, 1, 1]), [1, 0])
        self.assertEqual(answers([6, 0]), [1, -1])
        self.assertEqual(answers([7]), [1, 1])
        self.assertEqual(answers([8]), [2, 1, 0])
        self.assertEqual(answers([9, 3]), [2, 3, 3])
        self.assertEqual(answers([9, 0]), [1, -1])
        self.assertEqual(answers([10, 2]), [2, 0, 0])
        self.assertEqual(answers([10, 4]), [1, -1])

    def test_several_calls_count_by_count(self):
        self.assertEqual(answers(SEVERAL), SEVERAL_ANSWERED)

    def test_a_refused_row_is_passed_over_whole(self):
        row = [1, 3, 5, 0, 2] * 8
        calls = [0, 1, 40] + row + [4, 40] + row + [6, 40] + row + [0, 7, 3, 1, 1, 1] + [5]
        self.assertEqual(answers(calls), [1, -1, 1, -1, 1, -1, 1, -1, 2, 1, 0])

    def test_a_refused_number_is_passed_over(self):
        calls = [9, 9, 10, 10, 2, 5, 5] + ring(0, [0] * 9) + [9, 8, 5]
        self.assertEqual(answers(calls), [1, -1, 1, -1, 1, -1, 2, 1, 0, 1, 0, 1, -7, 10, 9] + [0] * 9)

    def test_forty_calls(self):
        one_round = [ring(1, [3, 0, 3]), told(), alike(2), turns(), looks([0, 3, 3]), looks([3, 3, 3]), form(), alike(9)]
        answered = [[1], [1, 1], [2, 0, 2], [2, 0, 5], [1], [0], [3, 0, 3, 3], [-1]]
        self.assertEqual(split_answers(answers(joined(one_round * 5))), answered * 5)

    def test_forty_of_all_eleven_calls(self):
        self.assertEqual(len(FORTY), 40)
        self.assertEqual({call[0] for call in FORTY}, set(range(11)))
        self.assertEqual(answers(joined(FORTY)), joined([[len(numbers)] + numbers for numbers in FORTY_ANSWERED]))

    def test_three_of_the_longest_on_eight_keys(self):
        for call, answered in ((fewest(), [9] + FORTY_ANSWERED[1]), (ways(3), [2, 5328, 333]),
                               (change(3), [9, 0] + GOOD_EIGHT)):
            self.assertEqual(answers(ring(1, GOOD_EIGHT) + call * 3), [1, 8] + answered * 3)

    def test_forty_of_the_longest_calls(self):
        calls = ring(1, [0] * 40) * 40
        self.assertEqual(answers(calls), [1, -1] * 40)

    def test_forty_of_the_longest_answers(self):
        calls = ring(1, [2] * 9) + turns() * 39
        self.assertEqual(answers(calls), [1, 0] + ([19, 18] + list(range(18))) * 39)


class Kinds(unittest.TestCase):
    def test_a_list_of_whole_numbers(self):
        given = answers(SEVERAL)
        self.assertIs(type(given), list)
        self.assertEqual({type(number) for number in given}, {int})

    def test_of_all_eleven_calls(self):
        given = answers(joined(FORTY))
        self.assertIs(type(given), list)
        self.assertEqual({type(number) for number in given}, {int})


class NothingKept(unittest.TestCase):
    def test_what_is_handed_in_stays(self):
        calls = list(SEVERAL)
        answers(calls)
        self.assertEqual(calls, SEVERAL)
        calls = joined(FORTY)
        answers(calls)
        self.assertEqual(calls, joined(FORTY))

    def test_not_changed_for_a_while_either(self):
        self.assertEqual(answers(Sealed(SEVERAL)), SEVERAL_ANSWERED)
        self.assertEqual(split_answers(answers(Sealed(joined(FORTY)))), FORTY_ANSWERED)

    def test_a_second_asking_answers_the_same(self):
        calls = list(SEVERAL)
        first = answers(calls)
        self.assertEqual(answers(calls), first)
        self.assertEqual(first, SEVERAL_ANSWERED)
        calls = joined(FORTY)
        first = answers(calls)
        self.assertEqual(answers(calls), first)

    def test_each_time_as_for_the_first_time(self):
        answers(ring(0, [1, 2, 3]))
        self.assertEqual(answers(joined([form(), turns()])), [2, 1, 0, 3, 2, 0, 1])

    def test_changing_what_was_given_back_changes_nothing(self):
        first = answers(SEVERAL)
        first[:] = [7] * len(first)
        self.assertEqual(answers(SEVERAL), SEVERAL_ANSWERED)

    def test_nothing_is_printed(self):
        with contextlib.redirect_stdout(io.StringIO()) as said, contextlib.redirect_stderr(io.StringIO()) as told_off:
            answers(SEVERAL)
        self.assertEqual((said.getvalue(), told_off.getvalue()), ("", ""))


if __name__ == "__main__":
    unittest.main()
