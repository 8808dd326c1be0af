"""ring: what it answers, what it refuses (promise 1), and that a refusal changes nothing."""

import unittest

from callwriting import alike, ask, form, looks, ring, told, turns

LARGEST = 4294967295

# (heads, told if it may not be turned over, told if it may)
RINGS = (
    ([0], 1, 1),
    ([3], 1, 1),
    ([0, 0], 0, 0),
    ([0, 1], 2, 2),
    ([2, 2, 2], 0, 0),
    ([0, 0, 1], 3, 1),
    ([0, 1, 2], 3, 3),
    ([0, 1, 0, 1], 0, 0),
    ([0, 0, 0, 1], 4, 2),
    ([0, 0, 1, 1], 4, 0),
    ([0, 0, 1, 2], 4, 4),
    ([0, 1, 2, 3], 4, 4),
    ([0, 0, 1, 0, 1], 5, 1),
    ([0, 0, 1, 0, 1, 1], 6, 6),
    ([0, 1, 2, 0, 1, 2], 0, 0),
    ([0, 0, 0, 1, 0, 1, 1], 7, 7),
    ([3, 2, 3, 2, 3, 2, 3, 2], 0, 0),
    ([0, 0, 0, 0, 0, 0, 0, 1], 8, 2),
    ([0, 0, 0, 0, 0, 0, 0, 0, 0], 0, 0),
    ([0, 0, 0, 0, 0, 0, 0, 0, 1], 9, 1),
    ([0, 0, 0, 0, 0, 1, 0, 1, 1], 9, 9),
    ([1, 2, 3, 1, 2, 3, 1, 2, 3], 0, 0),
)

REFUSED = (
    (2, [0]),
    (3, [0, 1]),
    (LARGEST, [0]),
    (0, []),
    (1, []),
    (0, [0] * 10),
    (1, [0, 1, 2, 3, 0, 1, 2, 3, 0, 1]),
    (0, [1] * 11),
    (1, [0] * 40),
    (0, [4]),
    (1, [0, 4]),
    (0, [4, 0]),
    (1, [0, 1, 2, 3, 0, 1, 2, 3, 4]),
    (0, [LARGEST]),
    (1, [0, LARGEST, 0]),
    (LARGEST, [LARGEST] * 40),
    (2, []),
)


class RingAnswers(unittest.TestCase):
    def test_may_not_be_turned_over(self):
        for heads, plain, over in RINGS:
            self.assertEqual(ask(ring(0, heads)), [[plain]], heads)

    def test_may_be_turned_over(self):
        for heads, plain, over in RINGS:
            self.assertEqual(ask(ring(1, heads)), [[over]], heads)

    def test_each_number_of_keys_is_taken(self):
        for many in range(1, 10):
            heads = [0] * (many - 1) + [3]
            self.assertEqual(ask(ring(0, heads)), [[many]])

    def test_the_ring_stays_until_the_next(self):
        given = ask(ring(0, [0, 1, 2]), form(), form(), ring(1, [3, 2]), form(), ring(0, [1]), form())
        self.assertEqual(given, [[3], [3, 0, 1, 2], [3, 0, 1, 2], [2], [2, 2, 3], [1], [1, 1]])

    def test_over_stays_until_the_next(self):
        given = ask(ring(0, [0, 0, 1]), turns(), ring(1, [0, 0, 1]), turns(), ring(0, [0, 0, 1]), turns())
        self.assertEqual(given, [[3], [1, 0], [1], [2, 0, 4], [3], [1, 0]])


class RingRefuses(unittest.TestCase):
    def test_refused_at_the_beginning(self):
        for over, heads in REFUSED:
            self.assertEqual(ask(ring(over, heads)), [[-1]], (over, heads))

    def test_all_is_as_it_was(self):
        asked = [told(), alike(0), alike(2), alike(3), turns(), looks([1, 0, 0]), looks([0]), form()]
        for kept in (ring(0, [0, 1, 0]), ring(1, [0, 1, 0])):
            before = ask(kept, *asked)[1:]
            for over, heads in REFUSED:
                given = ask(kept, ring(over, heads), *asked)
                self.assertEqual(given[1:], [[-1]] + before, (over, heads))

    def test_the_first_ring_stays_too(self):
        for over, heads in REFUSED:
            given = ask(ring(over, heads), told(), turns(), form())
            self.assertEqual(given, [[-1], [1, 0], [2, 0, 1], [1, 0]], (over, heads))

    def test_a_ring_after_a_refusal(self):
        self.assertEqual(ask(ring(2, [0, 1]), ring(0, [0, 0, 1]), told()), [[-1], [3], [3, 0, 1, 2]])


if __name__ == "__main__":
    unittest.main()
