"""The turns of a ring, and what they say of its keys.

A turn is kept as a list: at each place, the place to which the key there comes.
"""


def turn_by(many, step):
    return [(place + step) % many for place in range(many)]


def turn_over_by(many, step):
    return [(step - place) % many for place in range(many)]


def all_turns(many, over):
    turns = [turn_by(many, step) for step in range(many)]
    if over == 1:
        # Of one or two keys these repeat the plain turns; they are numbered all the same.
        turns.extend([turn_over_by(many, step) for step in range(many)])
    return turns


def turned(heads, turn):
    behind = list(heads)
    for place, head in enumerate(heads):
        behind[turn[place]] = head
    return behind


def shows_nothing(heads, turn):
    return turned(heads, turn) == heads


def silent_turns(heads, over):
    return [turn for turn in all_turns(len(heads), over) if shows_nothing(heads, turn)]


def silent_numbers(heads, over):
    turns = all_turns(len(heads), over)
    return [number for number, turn in enumerate(turns) if shows_nothing(heads, turn)]


def reached_places(turns, place):
    reached = [turn[place] for turn in turns]
    # Several turns may bring the key to one place: asked place by place, each comes once, rising.
    return [other for other in range(len(turns[0])) if other in reached]


def alike_places(heads, over, place):
    return reached_places(silent_turns(heads, over), place)


def told_places(heads, over):
    turns = silent_turns(heads, over)
    return [place for place in range(len(heads)) if reached_places(turns, place) == [place]]


def all_looks(heads, over):
    return [turned(heads, turn) for turn in all_turns(len(heads), over)]


def form_of(heads, over):
    return min(all_looks(heads, over))
