"""The document's words once more, by slices of lists, to hold the program against."""

from functools import lru_cache
from itertools import combinations, product


def turned_rings(over, keys):
    """The list of keys behind each turn, in the document's order of turns."""
    many = len(keys)
    found = [keys[many - step:] + keys[:many - step] for step in range(many)]
    if over:
        mirrored = keys[::-1]
        for step in range(many):
            cut = many - 1 - step
            found.append(mirrored[cut:] + mirrored[:cut])
    return found


def silent(over, heads):
    """(number, names of the keys behind the turn) of each turn that shows nothing."""
    marked = [(head, name) for name, head in enumerate(heads)]
    found = []
    for number, behind in enumerate(turned_rings(over, marked)):
        if [head for head, name in behind] == heads:
            found.append((number, [name for head, name in behind]))
    return found


def turns(over, heads):
    numbers = [number for number, names in silent(over, heads)]
    return [len(numbers)] + numbers


def alike(over, heads, place):
    reached = sorted({names.index(place) for number, names in silent(over, heads)})
    return [len(reached)] + reached


def told(over, heads):
    places = [place for place in range(len(heads)) if alike(over, heads, place)[0] == 1]
    return [len(places)] + places


def form(over, heads):
    return [len(heads)] + sorted(turned_rings(over, heads))[0]


def looks(over, heads, others):
    return [int(others in turned_rings(over, heads))]


def lasts_by_felt(over, heads, many):
    """For each row of heads that can be felt of so many keys: the places that may be the last one."""
    found = {}
    # Read backwards, the ring's falling places are rising ones.
    held = [list(enumerate(heads))]
    if over:
        held.append(held[0][::-1])
    for keys in held:
        along = keys * (many + 1)
        for start in range(len(keys)):
            walk = along[start:start + many]
            row = tuple(head for place, head in walk)
            found.setdefault(row, set()).add(walk[-1][0])
    return found


def felt(over, heads, row):
    places = sorted(lasts_by_felt(over, heads, len(row)).get(tuple(row), ()))
    return [len(places)] + places


def sure(over, heads):
    # Far more keys are tried than there are on any ring.
    for many in range(1, 40):
        if all(len(places) == 1 for places in lasts_by_felt(over, heads, many).values()):
            return [many]
    return [-6]


def is_good(over, heads):
    return told(over, heads)[0] == len(heads)


@lru_cache(maxsize=None)
def good_rings(over, many, k):
    return [heads for heads in product(range(k), repeat=many) if is_good(over, list(heads))]


def fewest(over, heads):
    for k in (1, 2, 3):
        good = good_rings(over, len(heads), k)
        if good:
            return [k] + list(min(good))
    raise AssertionError("three shapes are always enough")


def ways(over, heads, k):
    good = good_rings(over, len(heads), k)
    apart = {frozenset(tuple(other) for other in turned_rings(over, list(ring))) for ring in good}
    return [len(good), len(apart)]


def rings_with_changes(heads, k, many):
    for places in combinations(range(len(heads)), many):
        for news in product(range(k), repeat=many):
            changed = list(heads)
            for place, head in zip(places, news):
                changed[place] = head
            if max(changed) < k:
                yield changed


def change(over, heads, k):
    for many in range(len(heads) + 1):
        good = [other for other in rings_with_changes(heads, k, many) if is_good(over, other)]
        if good:
            return [many] + min(good)
    return [-6]
