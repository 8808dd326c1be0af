"""told, alike, turns, looks and form: at the beginning, behind ring, and refused (promise 2)."""

import unittest
from itertools import product

import plainwords
from callwriting import alike, ask, ask_of, form, looks, told, turns

LARGEST = 4294967295


class AtTheBeginning(unittest.TestCase):
    def test_one_key_of_head_0_that_may_be_turned_over(self):
        given = ask(told(), alike(0), turns(), looks([0]), form())
        self.assertEqual(given, [[1, 0], [1, 0], [2, 0, 1], [1], [1, 0]])

    def test_other_heads(self):
        self.assertEqual(ask(looks([1]), looks([2]), looks([3])), [[0], [0], [0]])

    def test_refusals(self):
        given = ask(alike(1), alike(LARGEST), looks([]), looks([0, 0]), looks([4]), looks([LARGEST]))
        self.assertEqual(given, [[-1]] * 6)


class Told(unittest.TestCase):
    def test_all_some_and_none(self):
        self.assertEqual(ask_of(0, [0, 0, 1], told()), [[3, 0, 1, 2]])
        self.assertEqual(ask_of(1, [0, 0, 1], told()), [[1, 2]])
        self.assertEqual(ask_of(1, [0, 0, 0, 1], told()), [[2, 1, 3]])
        self.assertEqual(ask_of(1, [0, 0, 1, 1], told()), [[0]])
        self.assertEqual(ask_of(0, [2, 2], told()), [[0]])
        self.assertEqual(ask_of(1, [0, 0, 1, 0, 1, 1], told()), [[6, 0, 1, 2, 3, 4, 5]])


class Alike(unittest.TestCase):
    def asked_everywhere(self, over, heads):
        return ask_of(over, heads, *[alike(place) for place in range(len(heads))])

    def test_each_place(self):
        self.assertEqual(self.asked_everywhere(1, [0, 0, 1]), [[2, 0, 1], [2, 0, 1], [1, 2]])
        self.assertEqual(self.asked_everywhere(0, [0, 0, 1]), [[1, 0], [1, 1], [1, 2]])
        self.assertEqual(self.asked_everywhere(0, [0, 1, 0, 1]), [[2, 0, 2], [2, 1, 3]] * 2)
        self.assertEqual(self.asked_everywhere(1, [0, 0, 0, 0]), [[4, 0, 1, 2, 3]] * 4)
        self.assertEqual(self.asked_everywhere(1, [0, 0, 1, 1]), [[2, 0, 1]] * 2 + [[2, 2, 3]] * 2)

    def test_the_same_head_is_not_enough(self):
        self.assertEqual(ask_of(1, [0, 0, 0, 1], alike(0), alike(1)), [[2, 0, 2], [1, 1]])

    def test_no_such_place(self):
        for many in range(1, 10):
            given = ask_of(0, [0] * many, alike(many - 1), alike(many), alike(many + 1), alike(LARGEST))
            self.assertEqual(given, [[many] + list(range(many)), [-1], [-1], [-1]])


class Turns(unittest.TestCase):
    def test_numbers(self):
        self.assertEqual(ask_of(0, [0, 1, 0, 1], turns()), [[2, 0, 2]])
        self.assertEqual(ask_of(1, [0, 1, 0, 1], turns()), [[4, 0, 2, 4, 6]])
        self.assertEqual(ask_of(1, [0, 0, 1], turns()), [[2, 0, 4]])
        self.assertEqual(ask_of(1, [1, 0, 0], turns()), [[2, 0, 3]])
        self.assertEqual(ask_of(1, [0, 0, 0, 0, 1], turns()), [[2, 0, 8]])
        self.assertEqual(ask_of(1, [0, 1, 2], turns()), [[1, 0]])

    def test_turns_to_the_same_places_count_as_two(self):
        self.assertEqual(ask_of(1, [3], turns()), [[2, 0, 1]])
        self.assertEqual(ask_of(0, [3], turns()), [[1, 0]])
        self.assertEqual(ask_of(1, [0, 1], turns()), [[2, 0, 2]])
        self.assertEqual(ask_of(1, [1, 1], turns()), [[4, 0, 1, 2, 3]])
        self.assertEqual(ask_of(0, [1, 1], turns()), [[2, 0, 1]])

    def test_all_of_them(self):
        self.assertEqual(ask_of(0, [2] * 9, turns()), [[9] + list(range(9))])
        self.assertEqual(ask_of(1, [2] * 9, turns()), [[18] + list(range(18))])


class Looks(unittest.TestCase):
    def test_turned(self):
        self.assertEqual(ask_of(0, [0, 1, 2], looks([0, 1, 2]), looks([1, 2, 0]), looks([2, 0, 1])), [[1]] * 3)

    def test_only_when_turned_over(self):
        for other in ([0, 2, 1], [2, 1, 0], [1, 0, 2]):
            self.assertEqual(ask_of(0, [0, 1, 2], looks(other)), [[0]])
            self.assertEqual(ask_of(1, [0, 1, 2], looks(other)), [[1]])

    def test_other_heads(self):
        self.assertEqual(ask_of(1, [0, 0, 1, 1], looks([0, 1, 0, 1]), looks([0, 0, 1, 2])), [[0], [0]])

    def test_refused(self):
        wrong = ([], [0], [0, 1], [0, 1, 2, 0], [0] * 40, [0, 1, 4], [4, 1, 2], [0, LARGEST, 2], [LARGEST] * 40)
        for over in (0, 1):
            given = ask_of(over, [0, 1, 2], *[looks(heads) for heads in wrong])
            self.assertEqual(given, [[-1]] * len(wrong))

    def test_asking_does_not_change_the_ring(self):
        given = ask_of(0, [2, 0, 1], looks([0, 1, 2]), looks([3, 3, 3]), looks([1]), alike(3), form())
        self.assertEqual(given, [[1], [0], [-1], [-1], [3, 0, 1, 2]])


class Form(unittest.TestCase):
    def test_lowest_at_the_first_difference(self):
        self.assertEqual(ask_of(0, [1, 0, 2], form()), [[3, 0, 2, 1]])
        self.assertEqual(ask_of(1, [1, 0, 2], form()), [[3, 0, 1, 2]])
        self.assertEqual(ask_of(0, [3], form()), [[1, 3]])
        self.assertEqual(ask_of(0, [1, 0, 1, 1, 0, 0], form()), [[6, 0, 0, 1, 0, 1, 1]])
        self.assertEqual(ask_of(0, [1, 1, 0, 1, 0, 0], form()), [[6, 0, 0, 1, 1, 0, 1]])
        self.assertEqual(ask_of(1, [1, 1, 0, 1, 0, 0], form()), [[6, 0, 0, 1, 0, 1, 1]])
        self.assertEqual(ask_of(1, [3, 3, 3, 3, 3, 3, 3, 3, 0], form()), [[9, 0] + [3] * 8])


class AgainstPlainWords(unittest.TestCase):
    def hold(self, over, heads):
        places = range(len(heads))
        given = ask_of(over, heads, told(), turns(), form(), *[alike(place) for place in places])
        asked = [plainwords.told(over, heads), plainwords.turns(over, heads), plainwords.form(over, heads)]
        asked.extend([plainwords.alike(over, heads, place) for place in places])
        self.assertEqual(given, asked, (over, heads))

    def test_every_ring_of_few_keys(self):
        for many in range(1, 6):
            for heads in product(range(4), repeat=many):
                for over in (0, 1):
                    self.hold(over, list(heads))

    def test_every_ring_of_two_shapes(self):
        for many in range(6, 10):
            for heads in product((1, 3), repeat=many):
                for over in (0, 1):
                    self.hold(over, list(heads))

    def test_form_is_the_form_of_all_it_looks_like(self):
        for heads in ([0, 1, 2, 3, 0, 0, 2, 1, 1], [3, 3, 2, 0, 1, 3, 0, 2], [2, 1, 1, 2, 0, 3, 1]):
            for over in (0, 1):
                forms = [ask_of(over, other, form()) for other in plainwords.turned_rings(over, heads)]
                self.assertEqual(forms, [[plainwords.form(over, heads)]] * len(forms))

    def test_looks_of_every_other_ring(self):
        for heads in ([0, 0, 1, 2], [0, 1, 2, 3], [3, 1, 3, 1], [0, 0, 1, 1], [2, 2, 2, 2]):
            others = [list(other) for other in product(range(4), repeat=4)]
            for over in (0, 1):
                given = [ask_of(over, heads, looks(other))[0] for other in others]
                self.assertEqual(given, [plainwords.looks(over, heads, other) for other in others])


if __name__ == "__main__":
    unittest.main()
