"""Runs: lists of tuples (many, thing), each of so many neighbours that are the same thing."""


def joined(pairs):
    """Tell as many things in as few tuples as can be."""
    found = []
    for many, thing in pairs:
        if many == 0:
            continue
        if found and found[-1][1] == thing:
            before, same = found[-1]
            found[-1] = (before + many, same)
        else:
            found.append((many, _own(thing)))
    return found


def length(pairs):
    """Tell how many things there are."""
    return sum([many for many, thing in pairs])


def between(pairs, begin, end):
    """Tell the runs of the things from the number begin up to, not with, end."""
    found = []
    at = 0
    for many, thing in pairs:
        low, high = max(begin, at), min(end, at + many)
        if low < high:
            found.append((high - low, thing))
        at += many
    return found


def beside(pairs, others):
    """Tell of two lists of runs of as many things (many, thing, other): so many of the one stand beside the other."""
    found = []
    rest = list(reversed(others))
    for many, thing in pairs:
        left = many
        while left > 0:
            there, other = rest.pop()
            step = min(left, there)
            found.append((step, thing, other))
            if step < there:
                rest.append((there - step, other))
            left -= step
    return found


def _own(thing):
    """Tell a thing in which no list is one that was handed in, since lists that are told are the asker's own."""
    if isinstance(thing, list):
        return [_own(item) for item in thing]
    if isinstance(thing, tuple):
        return tuple([_own(item) for item in thing])
    return thing
