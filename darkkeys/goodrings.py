"""The good rings of so many keys: how few shapes they need, how many there are, which is nearest."""

from darkkeys.turning import all_turns, shows_nothing, turned


def all_rings(many, shapes):
    rings = [[]]
    for place in range(many):
        longer = []
        for heads in rings:
            for head in range(shapes):
                longer.append(heads + [head])
        # Each step keeps them rising by the first place where they differ: callers take the first.
        rings = longer
    return rings


def moving_turns(many, over):
    unmoved = list(range(many))
    return [turn for turn in all_turns(many, over) if turn != unmoved]


def is_good(heads, moving):
    for turn in moving:
        # It moves some key, and that one is not told if nothing shows.
        if shows_nothing(heads, turn):
            return False
    return True


def good_rings(many, over, shapes):
    moving = moving_turns(many, over)
    return [heads for heads in all_rings(many, shapes) if is_good(heads, moving)]


def fewest_shapes(many, over):
    shapes = 1
    # Three shapes are always enough (0 .. 0 1 2), so this ends.
    while len(good_rings(many, over, shapes)) == 0:
        shapes += 1
    return shapes


def is_its_form(heads, turns):
    return heads == min([turned(heads, turn) for turn in turns])


def count_of_forms(rings, many, over):
    # What looks like a good ring is good: of those that look alike just one, their form, counts.
    turns = all_turns(many, over)
    return len([heads for heads in rings if is_its_form(heads, turns)])


def differences(heads, others):
    return len([place for place, head in enumerate(heads) if head != others[place]])


def nearest_ring(heads, rings):
    # Of several that are as near, min takes the first.
    return min(rings, key=lambda others: differences(heads, others))
