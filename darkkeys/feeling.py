"""What is felt along a ring, and which key may be the last one felt."""

RISING = 1
FALLING = -1


def felt_towards(heads, last, step, many):
    first = last - step * (many - 1)
    # More keys may be felt than there are: then one goes round the ring again.
    return [heads[(first + step * number) % len(heads)] for number in range(many)]


def all_felt_towards(heads, over, last, many):
    ways_along = [RISING, FALLING] if over == 1 else [RISING]
    return [felt_towards(heads, last, step, many) for step in ways_along]


def last_places(heads, over, felt):
    many = len(felt)
    return [last for last in range(len(heads)) if felt in all_felt_towards(heads, over, last, many)]


def is_sure(heads, over, many):
    for last in range(len(heads)):
        for felt in all_felt_towards(heads, over, last, many):
            if last_places(heads, over, felt) != [last]:
                return False
    return True


def least_sure(heads, over):
    # Once all keys have been felt, no further one says anything new.
    for many in range(1, len(heads) + 1):
        if is_sure(heads, over, many):
            return many
    return None
