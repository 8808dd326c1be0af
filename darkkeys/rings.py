"""The calls about one ring of keys: read from one list, answered in one list."""

from darkkeys.feeling import last_places, least_sure
from darkkeys.goodrings import count_of_forms, differences, fewest_shapes, good_rings, nearest_ring
from darkkeys.turning import all_looks, alike_places, form_of, silent_numbers, told_places

RING = 0
TOLD = 1
ALIKE = 2
TURNS = 3
LOOKS = 4
FORM = 5
FELT = 6
SURE = 7
FEWEST = 8
WAYS = 9
CHANGE = 10

REFUSED = -1
NONE_SUCH = -6
TOO_MANY_KEYS = -7
MOST_KEYS = 9
MOST_KEYS_TO_SHAPE = 8
MOST_SHAPES = 3
MOST_FELT = 20
HIGHEST_HEAD = 3


def are_heads(numbers):
    return all([number <= HIGHEST_HEAD for number in numbers])


def may_be_ring(over, heads):
    return over in (0, 1) and 1 <= len(heads) <= MOST_KEYS and are_heads(heads)


def may_be_felt(heads):
    return 1 <= len(heads) <= MOST_FELT and are_heads(heads)


def may_be_shapes(k):
    return 1 <= k <= MOST_SHAPES


def counted(numbers):
    return [len(numbers)] + numbers


# What is kept between the calls; each call gives back the list of the numbers answered.
class KeyRing:
    def __init__(self):
        self.over = 1
        self.heads = [0]

    def ring(self, over, heads):
        if not may_be_ring(over, heads):
            return [REFUSED]
        self.over = over
        self.heads = heads
        return [len(told_places(heads, over))]

    def told(self):
        return counted(told_places(self.heads, self.over))

    def alike(self, place):
        if place >= len(self.heads):
            return [REFUSED]
        return counted(alike_places(self.heads, self.over, place))

    def turns(self):
        return counted(silent_numbers(self.heads, self.over))

    def looks(self, heads):
        if len(heads) != len(self.heads) or not are_heads(heads):
            return [REFUSED]
        return [1 if heads in all_looks(self.heads, self.over) else 0]

    def form(self):
        return counted(form_of(self.heads, self.over))

    def felt(self, heads):
        if not may_be_felt(heads):
            return [REFUSED]
        return counted(last_places(self.heads, self.over, heads))

    def sure(self):
        many = least_sure(self.heads, self.over)
        return [NONE_SUCH if many is None else many]

    def has_too_many(self):
        return len(self.heads) > MOST_KEYS_TO_SHAPE

    def good_ones(self, k):
        return good_rings(len(self.heads), self.over, k)

    def fewest(self):
        if self.has_too_many():
            return [TOO_MANY_KEYS]
        k = fewest_shapes(len(self.heads), self.over)
        return [k] + self.good_ones(k)[0]

    def ways(self, k):
        if self.has_too_many():
            return [TOO_MANY_KEYS]
        if not may_be_shapes(k):
            return [REFUSED]
        good = self.good_ones(k)
        return [len(good), count_of_forms(good, len(self.heads), self.over)]

    def change(self, k):
        if self.has_too_many():
            return [TOO_MANY_KEYS]
        if not may_be_shapes(k):
            return [REFUSED]
        good = self.good_ones(k)
        if len(good) == 0:
            return [NONE_SUCH]
        nearest = nearest_ring(self.heads, good)
        return [differences(self.heads, nearest)] + nearest


# A position moves on instead of numbers being taken out: what is handed in must not be changed.
class CallReader:
    def __init__(self, calls):
        self.calls = calls
        self.position = 0

    def has_more(self):
        return self.position < len(self.calls)

    def take_number(self):
        number = self.calls[self.position]
        self.position += 1
        return number

    def take_row(self):
        many = self.take_number()
        start = self.position
        self.position = start + many
        # A slice is a copy: a ring may keep it.
        return self.calls[start:self.position]


def answer_next(keyring, reader):
    call = reader.take_number()
    if call == RING:
        over = reader.take_number()
        heads = reader.take_row()
        return keyring.ring(over, heads)
    if call == TOLD:
        return keyring.told()
    if call == ALIKE:
        return keyring.alike(reader.take_number())
    if call == TURNS:
        return keyring.turns()
    if call == LOOKS:
        return keyring.looks(reader.take_row())
    if call == FORM:
        return keyring.form()
    if call == FELT:
        return keyring.felt(reader.take_row())
    if call == SURE:
        return keyring.sure()
    if call == FEWEST:
        return keyring.fewest()
    if call == WAYS:
        return keyring.ways(reader.take_number())
    if call == CHANGE:
        return keyring.change(reader.take_number())
    raise ValueError(f"there is no call {call}")


def answers(calls):
    keyring = KeyRing()
    reader = CallReader(calls)
    answered = []
    while reader.has_more():
        answered.extend(counted(answer_next(keyring, reader)))
    return answered
