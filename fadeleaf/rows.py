"""Rows of layers of one ink: tuples of (tag, strength), the lowest first."""


def ranked(row):
    """Tell the numbers of a row's layers by rank: the stronger ahead, of as strong ones the upper."""
    keys = [(-layer[1], -at) for at, layer in enumerate(row)]
    return [-key[1] for key in sorted(keys)]


def first(row):
    """Tell the number of the layer of rank 0, None where there is no layer."""
    numbers = ranked(row)
    return numbers[0] if numbers else None


def weaker(row, n):
    """Tell the row of which each layer is weaker by n."""
    return _left([(tag, strength - n) for tag, strength in row])


def stronger(row, n):
    """Tell the row of which each layer is stronger by n."""
    return tuple([(tag, strength + n) for tag, strength in row])


def rubbed(row, n):
    """Tell the row of which the first alone is weaker by n."""
    top = first(row)
    return _left([(tag, strength - n if at == top else strength) for at, (tag, strength) in enumerate(row)])


def scraped(row):
    """Tell the row without its first."""
    top = first(row)
    return tuple([layer for at, layer in enumerate(row) if at != top])


def thinned(row, many):
    """Tell the row with just its layers of a rank below many."""
    return tuple([row[at] for at in sorted(ranked(row)[:many])])


def normal(row):
    """Tell the row of which each stretch stands by strength, the weakest lowest."""
    # All layers of a stretch have one tag, so the tuples stand by strength.
    return tuple([layer for stretch in _stretches(row) for layer in sorted(stretch)])


def alike(one, other):
    """Tell whether two rows, made normal, are the same."""
    return normal(one) == normal(other)


def _left(layers):
    """Tell the row of those layers that are not gone."""
    return tuple([layer for layer in layers if layer[1] > 0])


def _stretches(row):
    """Tell a row's stretches: lists of as many neighbours of one tag as there are."""
    found = []
    for layer in row:
        if found and found[-1][0][0] == layer[0]:
            found[-1].append(layer)
        else:
            found.append([layer])
    return found
