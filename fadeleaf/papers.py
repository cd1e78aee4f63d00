"""Papers of a place's layers: the deeds that bring one to be seen, or the layers that bar it for ever."""

from fadeleaf.deeds import are_deeds
from fadeleaf.errors import NoLayer, Worn
from fadeleaf.palettes import is_whole
from fadeleaf.rows import ranked


def rank(place, mark):
    """Tell the rank in its row of the layer of a mark."""
    return len(_marks_ahead(place, mark))


def is_kept(place, mark):
    """Tell whether thinning keeps the layer of a mark."""
    return rank(place, mark) <= place.wear()


def brought(place, mark):
    """Tell the paper of a layer: ("deeds", those that bring it), or ("barred", the marks that bar it)."""
    ahead = _marks_ahead(place, mark)
    if len(ahead) > place.wear():
        return "barred", sorted(ahead[:place.wear() + 1])
    # With no other ink on the place each scrape takes the next layer that ranks ahead.
    return "deeds", bared([place], _ink_of(place, mark)) + [("scrape",)] * len(ahead)


def fewest(place, mark):
    """Tell the least number of scrapes and rubs behind which a layer can be seen, None where it never can be."""
    ahead = _marks_ahead(place, mark)
    return len(ahead) if len(ahead) <= place.wear() else None


def does_bring(place, mark, deeds):
    """Tell whether anything is a list of deeds behind which the layer of a mark is seen."""
    # The mark is looked for ahead of all else, since one that is not there is refused whatever the deeds are.
    _ink_of(place, mark)
    if not are_deeds(deeds, place.palette()):
        return False
    left = place.copied()
    try:
        for deed in deeds:
            left.do(deed)
    except Worn:
        return False
    return left.seen_mark() == mark


def does_bar(place, mark, marks):
    """Tell whether anything is a list of the marks of layers that bar the one of a mark."""
    ahead = _marks_ahead(place, mark)
    if not isinstance(marks, list) or not all([is_whole(one) for one in marks]):
        return False
    if len(marks) != place.wear() + 1 or marks != sorted(set(marks)):
        return False
    return all([one in ahead for one in marks])


def bared(places, ink):
    """Tell deeds that leave on each of some places of one palette no layers but those of one ink."""
    deeds = []
    for name in places[0].palette().names():
        most = max([strength for place in places for tag, strength in place.row(name)], default=0)
        if name != ink and most > 0:
            deeds.append(("wash", name, most))
    return deeds


def _ink_of(place, mark):
    """Tell the ink of the layer of a mark."""
    if is_whole(mark):
        for ink in place.palette().names():
            if mark in place.marks(ink):
                return ink
    raise NoLayer(mark)


def _marks_ahead(place, mark):
    """Tell the marks of the layers that rank ahead of one in its row, by rank."""
    ink = _ink_of(place, mark)
    marks = place.marks(ink)
    by_rank = [marks[at] for at in ranked(place.row(ink))]
    return by_rank[:by_rank.index(mark)]
