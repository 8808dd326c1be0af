"""The document's words once more, by slices of lists, to hold the program against."""


def turned_rings(over, keys):
    """The list of keys behind each turn, in the document's order of turns."""
    many = len(keys)
    found = [keys[many - step:] + keys[:many - step] for step in range(many)]
    if over:
        mirrored = keys[::-1]
        for step in range(many):
            cut = many - 1 - step
            found.append(mirrored[cut:] + mirrored[:cut])
    return found


def silent(over, heads):
    """(number, names of the keys behind the turn) of each turn that shows nothing."""
    marked = [(head, name) for name, head in enumerate(heads)]
    found = []
    for number, behind in enumerate(turned_rings(over, marked)):
        if [head for head, name in behind] == heads:
            found.append((number, [name for head, name in behind]))
    return found


def turns(over, heads):
    numbers = [number for number, names in silent(over, heads)]
    return [len(numbers)] + numbers


def alike(over, heads, place):
    reached = sorted({names.index(place) for number, names in silent(over, heads)})
    return [len(reached)] + reached


def told(over, heads):
    places = [place for place in range(len(heads)) if alike(over, heads, place)[0] == 1]
    return [len(places)] + places


def form(over, heads):
    return [len(heads)] + sorted(turned_rings(over, heads))[0]


def looks(over, heads, others):
    return [int(others in turned_rings(over, heads))]
