"""felt and sure: at the beginning, behind ring, and refused (promises 2 and 3)."""

import unittest
from itertools import product

import plainwords
from callwriting import ask, ask_of, felt, form, sure, told, turns

LARGEST = 4294967295

# Good both ways, and read forwards not as backwards.
CHIRAL = [0, 0, 1, 0, 1, 1]


class AtTheBeginning(unittest.TestCase):
    def test_felt(self):
        given = ask(felt([0]), felt([0, 0]), felt([0] * 20), felt([1]), felt([0, 3]))
        self.assertEqual(given, [[1, 0], [1, 0], [1, 0], [0], [0]])

    def test_sure(self):
        self.assertEqual(ask(sure()), [[1]])

    def test_refusals(self):
        given = ask(felt([]), felt([0] * 21), felt([4]), felt([LARGEST]))
        self.assertEqual(given, [[-1]] * 4)


class Felt(unittest.TestCase):
    def test_one_key(self):
        for over in (0, 1):
            given = ask_of(over, [2], felt([2]), felt([2, 2, 2]), felt([2] * 20), felt([0]), felt([2, 2, 1]))
            self.assertEqual(given, [[1, 0], [1, 0], [1, 0], [0], [0]])

    def test_the_head_of_one_key(self):
        for over in (0, 1):
            given = ask_of(over, [0, 1, 0, 2], felt([0]), felt([1]), felt([2]), felt([3]))
            self.assertEqual(given, [[2, 0, 2], [1, 1], [1, 3], [0]])

    def test_rising_places(self):
        given = ask_of(0, [0, 1, 2], felt([0, 1]), felt([1, 2]), felt([2, 0]), felt([0, 1, 2]), felt([2, 0, 1]))
        self.assertEqual(given, [[1, 1], [1, 2], [1, 0], [1, 2], [1, 1]])

    def test_falling_places_only_if_it_may_be_turned_over(self):
        rows = ([1, 0], [2, 1], [0, 2], [2, 1, 0], [1, 0, 2])
        asked = [felt(row) for row in rows]
        self.assertEqual(ask_of(0, [0, 1, 2], *asked), [[0]] * 5)
        self.assertEqual(ask_of(1, [0, 1, 2], *asked), [[1, 0], [1, 1], [1, 2], [1, 0], [1, 2]])

    def test_rising_and_falling_places_together(self):
        self.assertEqual(ask_of(0, [0, 1, 0, 2], felt([0, 1]), felt([1, 0])), [[1, 1], [1, 2]])
        self.assertEqual(ask_of(1, [0, 1, 0, 2], felt([0, 1]), felt([1, 0])), [[1, 1], [2, 0, 2]])

    def test_behind_the_last_place_comes_place_0(self):
        self.assertEqual(ask_of(0, [0, 1, 1, 0, 2], felt([2, 0]), felt([0, 2, 0, 1])), [[1, 0], [1, 1]])
        self.assertEqual(ask_of(1, [0, 1, 1, 0, 2], felt([2, 0]), felt([0, 2, 0, 1])), [[2, 0, 3], [2, 1, 2]])

    def test_a_key_counts_once_though_reached_both_ways(self):
        self.assertEqual(ask_of(1, [0, 0, 1], felt([0, 1]), felt([1, 0, 0, 1])), [[1, 2], [1, 2]])
        self.assertEqual(ask_of(1, [3, 3, 3], felt([3]), felt([3] * 7)), [[3, 0, 1, 2]] * 2)
        self.assertEqual(ask_of(1, [0, 1], felt([0, 1]), felt([1, 0])), [[1, 1], [1, 0]])

    def test_places_rise(self):
        self.assertEqual(ask_of(1, [1, 0, 1, 0, 0, 1, 0, 0, 1], felt([1])), [[4, 0, 2, 5, 8]])
        self.assertEqual(ask_of(1, [1] * 9, felt([1] * 20)), [[9] + list(range(9))])

    def test_more_keys_than_the_ring_has(self):
        self.assertEqual(ask_of(0, [0, 1, 2], felt([0, 1, 2, 0]), felt([0, 1, 2] * 6 + [0, 1])), [[1, 0], [1, 1]])
        self.assertEqual(ask_of(1, [0, 1, 2], felt([2, 1, 0] * 6 + [2, 1])), [[1, 1]])
        self.assertEqual(ask_of(0, CHIRAL, felt(CHIRAL + CHIRAL[:1])), [[1, 0]])
        self.assertEqual(ask_of(0, [0, 1, 2], felt([0, 1, 2, 1]), felt([0, 1, 2] * 6 + [0, 2])), [[0], [0]])

    def test_heads_that_cannot_be_felt_so(self):
        for over in (0, 1):
            given = ask_of(over, [0, 0, 1, 2], felt([0, 0, 0]), felt([1, 1]), felt([3]), felt([0, 3]), felt([0, 1, 0]))
            self.assertEqual(given, [[0]] * 5)

    def test_refused(self):
        wrong = ([], [0] * 21, [0] * 22, [0] * 40, [4], [0, 4], [4, 0], [0] * 19 + [4], [LARGEST], [0, LARGEST, 1],
                 [LARGEST] * 40, [5] * 21)
        for over in (0, 1):
            for heads in ([0], [0, 0, 1], [0] * 9):
                given = ask_of(over, heads, *[felt(row) for row in wrong])
                self.assertEqual(given, [[-1]] * len(wrong))

    def test_each_number_of_heads(self):
        asked = [felt([0] * many) for many in range(22)]
        given = ask_of(0, [0, 0], *asked)
        self.assertEqual(given, [[-1]] + [[2, 0, 1]] * 20 + [[-1]])


class Sure(unittest.TestCase):
    def test_may_not_be_turned_over(self):
        cases = (
            ([0], 1), ([3], 1), ([0, 1], 1), ([0, 1, 2], 1), ([0, 1, 2, 3], 1),
            ([0, 0, 1], 2), ([0, 0, 1, 1], 2), ([0, 0, 0, 1], 3), ([0, 0, 0, 1, 0, 1, 1, 1], 3),
            ([0, 0, 1, 0, 1], 4), ([0] * 7 + [1], 7), ([0] * 8 + [2], 8),
        )
        for heads, many in cases:
            self.assertEqual(ask_of(0, heads, sure()), [[many]], heads)

    def test_may_be_turned_over(self):
        cases = (
            ([0], 1), ([3], 1), ([0, 1], 1), ([0, 1, 2], 1), ([0, 1, 2, 3], 1),
            ([0, 0, 1, 2], 3), ([0, 1, 0, 2, 3], 4), (CHIRAL, 5), ([0, 0, 0, 0, 0, 1, 0, 1, 1], 8),
        )
        for heads, many in cases:
            self.assertEqual(ask_of(1, heads, sure()), [[many]], heads)

    def test_no_such_number(self):
        for over in (0, 1):
            for heads in ([0, 0], [2, 2, 2], [0, 1, 0, 1], [0, 1, 2, 0, 1, 2], [3] * 9, [1, 2, 3] * 3):
                self.assertEqual(ask_of(over, heads, sure()), [[-6]], (over, heads))

    def test_no_such_number_only_if_it_may_be_turned_over(self):
        for heads in ([0, 0, 1], [0, 0, 0, 1], [0, 0, 1, 1], [0, 0, 1, 0, 1], [0] * 8 + [1]):
            self.assertEqual(ask_of(1, heads, sure()), [[-6]], heads)
            self.assertNotEqual(ask_of(0, heads, sure()), [[-6]], heads)

    def test_so_many_are_enough_and_one_fewer_is_not(self):
        for over in (0, 1):
            for heads in (CHIRAL, [0, 0, 1, 2], [0, 0, 0, 1, 0, 1, 1], [0, 0, 0, 0, 0, 1, 0, 1, 1]):
                many = ask_of(over, heads, sure())[0][0]
                self.assertEqual(self.most_lasts(over, heads, many), 1)
                self.assertGreater(self.most_lasts(over, heads, many - 1), 1)

    def most_lasts(self, over, heads, many):
        rows = plainwords.lasts_by_felt(over, heads, many)
        return max(ask_of(over, heads, felt(row))[0][0] for row in rows)


class TheRingStays(unittest.TestCase):
    def test_behind_each_call(self):
        asked = [form(), turns(), told()]
        for over in (0, 1):
            for heads in ([2, 0, 1], [1, 1, 0], [3, 0, 3, 0]):
                before = ask_of(over, heads, *asked)
                for call in (felt(heads), felt([0]), felt([3, 3]), felt([]), felt([9]), felt([0] * 40), sure()):
                    self.assertEqual(ask_of(over, heads, call, *asked)[1:], before, (over, heads, call))


class AgainstPlainWords(unittest.TestCase):
    def test_felt_of_every_row_on_small_rings(self):
        rows = [list(row) for many in range(1, 6) for row in product(range(3), repeat=many)]
        for heads in ([0], [1], [0, 1], [1, 1], [0, 1, 1], [2, 0, 1], [0, 0, 1, 2], [0, 1, 0, 2]):
            for over in (0, 1):
                for row in rows:
                    self.assertEqual(ask_of(over, heads, felt(row)), [plainwords.felt(over, heads, row)])

    def test_felt_of_every_row_that_can_be(self):
        for heads in (CHIRAL, [0, 3, 3, 0, 1], [2, 2, 2, 1, 2, 1, 1], [0, 1, 0, 0, 0, 1, 0, 0], [0, 1, 2] * 3):
            for over in (0, 1):
                for many in range(1, 21):
                    for row, places in plainwords.lasts_by_felt(1, heads, many).items():
                        self.assertEqual(ask_of(over, heads, felt(row)), [plainwords.felt(over, heads, row)])

    def test_sure_on_every_ring_of_few_keys(self):
        for many in range(1, 5):
            for heads in product(range(4), repeat=many):
                for over in (0, 1):
                    self.assertEqual(ask_of(over, list(heads), sure()), [plainwords.sure(over, list(heads))])

    def test_sure_on_rings_of_more_keys(self):
        for many in range(5, 10):
            # Those that begin with the lowest head: all others are turned ones of these, or have none.
            for behind in list(product((0, 2), repeat=many - 1))[::3]:
                heads = [0] + list(behind)
                for over in (0, 1):
                    self.assertEqual(ask_of(over, heads, sure()), [plainwords.sure(over, heads)])


if __name__ == "__main__":
    unittest.main()
