"""fewest, ways and change: what they answer, what they refuse (promise 4), and that the ring stays."""

import unittest
from itertools import product

import plainwords
from callwriting import ask, ask_of, change, fewest, form, told, turns, ways

LARGEST = 4294967295
WRONG_SHAPES = (0, 4, 5, 9, LARGEST)

# By the number of keys, from 1 to 8: the least number of shapes and the lowest good ring.
FEWEST = {
    0: (
        [1, 0], [2, 0, 1], [2, 0, 0, 1], [2, 0, 0, 0, 1], [2, 0, 0, 0, 0, 1], [2, 0, 0, 0, 0, 0, 1],
        [2, 0, 0, 0, 0, 0, 0, 1], [2, 0, 0, 0, 0, 0, 0, 0, 1],
    ),
    1: (
        [1, 0], [2, 0, 1], [3, 0, 1, 2], [3, 0, 0, 1, 2], [3, 0, 0, 0, 1, 2], [2, 0, 0, 1, 0, 1, 1],
        [2, 0, 0, 0, 1, 0, 1, 1], [2, 0, 0, 0, 0, 1, 0, 1, 1],
    ),
}

# By over and k, and then by the number of keys, from 1 to 8.
WAYS = {
    (0, 1): ([1, 1], [0, 0], [0, 0], [0, 0], [0, 0], [0, 0], [0, 0], [0, 0]),
    (0, 2): ([2, 2], [2, 1], [6, 2], [12, 3], [30, 6], [54, 9], [126, 18], [240, 30]),
    (0, 3): ([3, 3], [6, 3], [24, 8], [72, 18], [240, 48], [696, 116], [2184, 312], [6480, 810]),
    (1, 1): ([1, 1], [0, 0], [0, 0], [0, 0], [0, 0], [0, 0], [0, 0], [0, 0]),
    (1, 2): ([2, 2], [2, 1], [0, 0], [0, 0], [0, 0], [12, 1], [28, 2], [96, 6]),
    (1, 3): ([3, 3], [6, 3], [6, 1], [24, 3], [120, 12], [444, 37], [1638, 117], [5328, 333]),
}


class AtTheBeginning(unittest.TestCase):
    def test_one_key_of_head_0(self):
        self.assertEqual(ask(fewest()), [[1, 0]])
        self.assertEqual(ask(ways(1), ways(2), ways(3)), [[1, 1], [2, 2], [3, 3]])
        self.assertEqual(ask(change(1), change(2), change(3)), [[0, 0]] * 3)

    def test_refusals(self):
        for k in WRONG_SHAPES:
            self.assertEqual(ask(ways(k), change(k)), [[-1], [-1]])


class Fewest(unittest.TestCase):
    def test_each_number_of_keys(self):
        for over in (0, 1):
            for many in range(1, 9):
                self.assertEqual(ask_of(over, [0] * many, fewest()), [FEWEST[over][many - 1]])

    def test_whatever_the_heads_are(self):
        for over in (0, 1):
            for heads in ([3], [1, 0], [2, 1, 0], [3, 3, 3, 3], [0, 1, 2, 3, 0], [1, 0, 1, 1, 0, 0], [2, 3] * 4):
                self.assertEqual(ask_of(over, heads, fewest()), [FEWEST[over][len(heads) - 1]])

    def test_too_many_keys(self):
        for over in (0, 1):
            for heads in ([0] * 9, [0, 0, 0, 0, 0, 1, 0, 1, 1]):
                self.assertEqual(ask_of(over, heads, fewest()), [[-7]])


class Ways(unittest.TestCase):
    def test_each_number_of_keys(self):
        for over, k in WAYS:
            for many in range(1, 9):
                given = ask_of(over, [0] * many, ways(k))
                self.assertEqual(given, [WAYS[over, k][many - 1]], (over, k, many))

    def test_whatever_the_heads_are(self):
        for over, k in WAYS:
            for heads in ([3], [0, 1], [2, 1, 0], [3, 3, 3, 3], [0, 0, 1, 0, 1, 1]):
                self.assertEqual(ask_of(over, heads, ways(k)), [WAYS[over, k][len(heads) - 1]])

    def test_no_such_number_of_shapes(self):
        for over in (0, 1):
            for many in range(1, 9):
                for k in WRONG_SHAPES:
                    self.assertEqual(ask_of(over, [0] * many, ways(k)), [[-1]])

    def test_too_many_keys_whatever_k_is(self):
        for over in (0, 1):
            for k in (1, 2, 3) + WRONG_SHAPES:
                self.assertEqual(ask_of(over, [0, 0, 0, 0, 0, 1, 0, 1, 1], ways(k)), [[-7]])


class Change(unittest.TestCase):
    def test_one_key(self):
        for over in (0, 1):
            self.assertEqual(ask_of(over, [0], change(1)), [[0, 0]])
            self.assertEqual(ask_of(over, [1], change(1), change(2), change(3)), [[1, 0], [0, 1], [0, 1]])
            self.assertEqual(ask_of(over, [3], change(1), change(2), change(3)), [[1, 0]] * 3)

    def test_good_already(self):
        for heads in ([1, 0], [1, 1, 0], [1, 0, 0, 0, 1], [1, 1, 1, 1, 1, 1, 1, 0]):
            self.assertEqual(ask_of(0, heads, change(2), change(3)), [[0] + heads] * 2)
        for heads in ([1, 0], [1, 0, 1, 1, 0, 0], [1, 1, 0, 1, 0, 0, 0], [1, 1, 0, 1, 0, 0, 0, 0]):
            self.assertEqual(ask_of(1, heads, change(2), change(3)), [[0] + heads] * 2)
        self.assertEqual(ask_of(1, [2, 1, 0, 0], change(3)), [[0, 2, 1, 0, 0]])

    def test_heads_that_are_not_below_k(self):
        self.assertEqual(ask_of(0, [3, 0], change(2), change(3)), [[1, 1, 0], [1, 1, 0]])
        self.assertEqual(ask_of(0, [3, 2], change(2), change(3)), [[2, 0, 1], [1, 0, 2]])
        self.assertEqual(ask_of(0, [0, 1, 2], change(2), change(3)), [[1, 0, 1, 0], [0, 0, 1, 2]])
        self.assertEqual(ask_of(0, [3, 3, 3], change(2), change(3)), [[3, 0, 0, 1], [3, 0, 0, 1]])
        self.assertEqual(ask_of(1, [0, 1, 3], change(3)), [[1, 0, 1, 2]])
        self.assertEqual(ask_of(1, [3, 2, 3], change(3)), [[2, 0, 2, 1]])

    def test_the_first_of_several(self):
        self.assertEqual(ask_of(0, [0, 0], change(2)), [[1, 0, 1]])
        self.assertEqual(ask_of(0, [1, 1], change(2), change(3)), [[1, 0, 1]] * 2)
        self.assertEqual(ask_of(0, [0, 1, 0, 1], change(2), change(3)), [[1, 0, 0, 0, 1]] * 2)
        self.assertEqual(ask_of(1, [0] * 6, change(2), change(3)), [[3, 0, 0, 1, 0, 1, 1], [2, 0, 0, 0, 0, 1, 2]])
        self.assertEqual(ask_of(1, [1, 1, 1], change(3)), [[2, 0, 1, 2]])

    def test_fewer_changes_come_before_lower_heads(self):
        self.assertEqual(ask_of(0, [2, 2, 2], change(3)), [[1, 0, 2, 2]])
        self.assertEqual(ask_of(1, [2, 1, 2], change(3)), [[1, 0, 1, 2]])
        self.assertEqual(ask_of(1, [2, 0, 1, 0], change(3)), [[1, 2, 0, 1, 1]])
        self.assertEqual(ask_of(1, [2, 1, 0], change(3)), [[0, 2, 1, 0]])

    def test_no_good_ring(self):
        for many in range(2, 9):
            for over in (0, 1):
                self.assertEqual(ask_of(over, [0] * many, change(1)), [[-6]])
                self.assertEqual(ask_of(over, [3] * many, change(1)), [[-6]])
        for heads in ([0, 0, 1], [0, 1, 2], [0, 0, 1, 2], [3, 3, 3, 3], [0, 0, 0, 1, 2]):
            self.assertEqual(ask_of(1, heads, change(2)), [[-6]])
            self.assertNotEqual(ask_of(0, heads, change(2)), [[-6]])

    def test_no_such_number_of_shapes(self):
        for over in (0, 1):
            for many in range(1, 9):
                for k in WRONG_SHAPES:
                    self.assertEqual(ask_of(over, [0] * many, change(k)), [[-1]])

    def test_too_many_keys_whatever_k_is(self):
        for over in (0, 1):
            for heads in ([0] * 9, [0, 0, 0, 0, 0, 1, 0, 1, 1]):
                for k in (1, 2, 3) + WRONG_SHAPES:
                    self.assertEqual(ask_of(over, heads, change(k)), [[-7]])


class TheRingStays(unittest.TestCase):
    def test_behind_each_call(self):
        asked = [form(), turns(), told()]
        calls = [fewest()] + [call(k) for call in (ways, change) for k in (1, 2, 3) + WRONG_SHAPES]
        for over in (0, 1):
            for heads in ([3], [2, 0, 1], [1, 1, 0], [3, 0, 3, 0], [3] * 9):
                before = ask_of(over, heads, *asked)
                for call in calls:
                    self.assertEqual(ask_of(over, heads, call, *asked)[1:], before, (over, heads, call))


class AgainstPlainWords(unittest.TestCase):
    def test_fewest_and_ways(self):
        for many in range(1, 9):
            heads = [0] * many
            for over in (0, 1):
                self.assertEqual(ask_of(over, heads, fewest()), [plainwords.fewest(over, heads)])
                for k in (1, 2, 3):
                    self.assertEqual(ask_of(over, heads, ways(k)), [plainwords.ways(over, heads, k)])

    def test_change_of_every_ring_of_few_keys(self):
        for many in range(1, 5):
            for heads in product(range(4), repeat=many):
                self.hold_change(list(heads))

    def test_change_of_rings_of_more_keys(self):
        for heads in ([0, 1, 1, 0, 3], [2, 2, 1, 2, 2], [0, 1, 0, 1, 0, 1], [3, 1, 2, 2, 1, 3], [1] * 6,
                      [0, 0, 1, 0, 1, 3, 1], [2, 1, 0, 0, 0, 1, 2], [1, 0, 0, 1, 1, 0, 0, 1], [2, 1, 0, 3] * 2):
            self.hold_change(heads)

    def hold_change(self, heads):
        for over in (0, 1):
            for k in (1, 2, 3):
                given = ask_of(over, heads, change(k))
                self.assertEqual(given, [plainwords.change(over, heads, k)], (over, heads, k))


if __name__ == "__main__":
    unittest.main()
