"""Writes calls as the list that answers() takes, and reads its list back call by call."""

from darkkeys.rings import answers


def ring(over, heads):
    return [0, over, len(heads)] + list(heads)


def told():
    return [1]


def alike(place):
    return [2, place]


def turns():
    return [3]


def looks(heads):
    return [4, len(heads)] + list(heads)


def form():
    return [5]


def felt(heads):
    return [6, len(heads)] + list(heads)


def sure():
    return [7]


def fewest():
    return [8]


def ways(k):
    return [9, k]


def change(k):
    return [10, k]


def joined(calls):
    return [number for call in calls for number in call]


def split_answers(given):
    """Each call's numbers; fails if the counts don't add up to the list's length."""
    split = []
    at = 0
    while at < len(given):
        behind = at + 1 + given[at]
        if given[at] < 1 or behind > len(given):
            raise AssertionError(f"count {given[at]} at {at} doesn't fit {given}")
        split.append(given[at + 1:behind])
        at = behind
    return split


def ask(*calls):
    return split_answers(answers(joined(calls)))


def ask_of(over, heads, *calls):
    """The answers to the calls, asked of that ring."""
    return ask(ring(over, heads), *calls)[1:]
