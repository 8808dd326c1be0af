"""The calls about one ring of keys: read from one list, answered in one list."""

from darkkeys.turning import all_looks, alike_places, form_of, silent_numbers, told_places

RING = 0
TOLD = 1
ALIKE = 2
TURNS = 3
LOOKS = 4
FORM = 5

REFUSED = -1
MOST_KEYS = 9
HIGHEST_HEAD = 3


def are_heads(numbers):
    return all([number <= HIGHEST_HEAD for number in numbers])


def may_be_ring(over, heads):
    return over in (0, 1) and 1 <= len(heads) <= MOST_KEYS and are_heads(heads)


def counted(numbers):
    return [len(numbers)] + numbers


# What is kept between the calls; each call gives back the list of the numbers answered.
class KeyRing:
    def __init__(self):
        self.over = 1
        self.heads = [0]

    def ring(self, over, heads):
        if not may_be_ring(over, heads):
            return [REFUSED]
        self.over = over
        self.heads = heads
        return [len(told_places(heads, over))]

    def told(self):
        return counted(told_places(self.heads, self.over))

    def alike(self, place):
        if place >= len(self.heads):
            return [REFUSED]
        return counted(alike_places(self.heads, self.over, place))

    def turns(self):
        return counted(silent_numbers(self.heads, self.over))

    def looks(self, heads):
        if len(heads) != len(self.heads) or not are_heads(heads):
            return [REFUSED]
        return [1 if heads in all_looks(self.heads, self.over) else 0]

    def form(self):
        return counted(form_of(self.heads, self.over))


# A position moves on instead of numbers being taken out: what is handed in must not be changed.
class CallReader:
    def __init__(self, calls):
        self.calls = calls
        self.position = 0

    def has_more(self):
        return self.position < len(self.calls)

    def take_number(self):
        number = self.calls[self.position]
        self.position += 1
        return number

    def take_row(self):
        many = self.take_number()
        start = self.position
        self.position = start + many
        # A slice is a copy: a ring may keep it.
        return self.calls[start:self.position]


def answer_next(keyring, reader):
    call = reader.take_number()
    if call == RING:
        over = reader.take_number()
        heads = reader.take_row()
        return keyring.ring(over, heads)
    if call == TOLD:
        return keyring.told()
    if call == ALIKE:
        return keyring.alike(reader.take_number())
    if call == TURNS:
        return keyring.turns()
    if call == LOOKS:
        return keyring.looks(reader.take_row())
    if call == FORM:
        return keyring.form()
    raise ValueError(f"there is no call {call}")


def answers(calls):
    keyring = KeyRing()
    reader = CallReader(calls)
    answered = []
    while reader.has_more():
        answered.extend(counted(answer_next(keyring, reader)))
    return answered
