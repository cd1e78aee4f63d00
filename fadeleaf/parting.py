"""Deeds that part two places, kept ones or not."""

from fadeleaf.deeds import are_deeds
from fadeleaf.errors import Worn
from fadeleaf.kept import kept_of
from fadeleaf.palettes import refuse_unlike
from fadeleaf.papers import bared
from fadeleaf.rows import ranked


def parting(one, other):
    """Tell deeds that part two places, None where there are none."""
    refuse_unlike(one.palette(), other.palette())
    inks = one.palette().names()
    if one.wear() != other.wear():
        # What is laid is there to be scraped on both places, until one of them bears no more.
        return [("lay", inks[0], "a", 1), ("scrape",)] * (min(one.wear(), other.wear()) + 1)
    kept, other_kept = kept_of(one), kept_of(other)
    for ink in inks:
        if kept.row(ink) != other_kept.row(ink):
            return bared([kept, other_kept], ink) + _row_parting(kept.row(ink), other_kept.row(ink))
    return None


def does_part(one, other, deeds):
    """Tell whether anything is a list of deeds that part two places."""
    refuse_unlike(one.palette(), other.palette())
    if not are_deeds(deeds, one.palette()):
        return False
    left, other_left = one.copied(), other.copied()
    for at, deed in enumerate(deeds):
        refused, other_refused = _refuses(left, deed), _refuses(other_left, deed)
        if refused or other_refused:
            return refused != other_refused and at == len(deeds) - 1
    return left.seen() != other_left.seen()


def _refuses(place, deed):
    """Tell whether a place refuses a deed; where it doesn't the deed is done."""
    try:
        place.do(deed)
    except Worn:
        return True
    return False


def _row_parting(one, other):
    """Tell deeds that part two places of this one row each: thinned, normal, and not the same."""
    layers = [one[at] for at in ranked(one)]
    other_layers = [other[at] for at in ranked(other)]
    for at in range(max(len(layers), len(other_layers))):
        if layers[at:at + 1] != other_layers[at:at + 1]:
            return [("scrape",)] * at
    return _order_parting(one, other)


def _order_parting(one, other):
    """Tell deeds that part two rows that have the same layers at each rank, but in another order.

    As the rows are normal, there are two layers of unlike tags that lie the other way round. All others that rank
    ahead of the weaker one are scraped off, and the stronger is rubbed to be just as strong: then the upper is seen.
    """
    here, there = ranked(one), ranked(other)
    turned = [
        (ahead, behind)
        for behind in range(len(here))
        for ahead in range(behind)
        if one[here[ahead]][0] != one[here[behind]][0]
        and (here[ahead] < here[behind]) != (there[ahead] < there[behind])
    ]
    # Of such twos the one whose weaker layer ranks first: with another one a layer between them, as strong as the
    # weaker, could be left in the place of the rubbed one, and be of the weaker one's tag.
    strong, weak = turned[0]
    n = one[here[strong]][1] - one[here[weak]][1]
    return [("scrape",)] * strong + [("rub", n)] + [("scrape",)] * (weak - strong - 1)
