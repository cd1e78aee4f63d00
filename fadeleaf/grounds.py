"""The ground of a place: a dict of the row of each ink, in order.

Nothing here looks into a tag, so that a place can keep pairs of a tag and a mark where a kept one keeps tags alone.
"""

from fadeleaf.deeds import wears
from fadeleaf.errors import Worn
from fadeleaf.rows import first, rubbed, scraped, stronger, weaker


def bare_ground(palette):
    """Tell the ground without layers."""
    return {ink: () for ink in palette.names()}


def seen_on(ground):
    """Tell what is seen: ink, tag and strength, None where there is no layer."""
    found = None
    for ink, row in ground.items():
        if row:
            tag, strength = row[first(row)]
            # Of as strong ones that of the ink that comes first in order stays.
            if found is None or strength > found[2]:
                found = (ink, tag, strength)
    return found


def wear_behind(wear, ground, deed):
    """Tell a ground's wear behind a deed of its palette."""
    if not wears(deed) or seen_on(ground) is None:
        return wear
    if wear == 0:
        raise Worn()
    return wear - 1


def ground_behind(ground, palette, deed):
    """Tell a ground behind a deed of its palette."""
    word, *rest = deed
    if word == "wait":
        return {ink: weaker(row, rest[0] * palette.fade(ink)) for ink, row in ground.items()}
    if wears(deed):
        seen = seen_on(ground)
        if seen is None:
            return ground
        ink = seen[0]
    else:
        ink, *rest = rest
    return {**ground, ink: _row_behind(ground[ink], word, rest)}


def pressed(seen):
    """Tell what is laid where a place is pressed on which this is seen, None where nothing is."""
    if seen is None or seen[2] < 2:
        return None
    ink, tag, strength = seen
    return ink, tag, strength // 2


def _row_behind(row, word, rest):
    """Tell the row to which a deed is done, behind it: rest is a layer's tag and strength, or one amount."""
    if word == "lay":
        return row + (tuple(rest),)
    if word == "wash":
        return weaker(row, rest[0])
    if word == "warm":
        return stronger(row, rest[0])
    if word == "rub":
        return rubbed(row, rest[0])
    return scraped(row)
