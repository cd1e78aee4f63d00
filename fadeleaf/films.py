"""Films: what will be seen, tick by tick, if nothing is done; told by its changes.

All layers of an ink are weaker by as much with each tick, so its first stays its first until the row is gone. A LINE
is such a first: (strength, fade, (ink, tag)). Of lines, listed by the inks' order, the strongest is seen.
"""

from fadeleaf.errors import NoAmount
from fadeleaf.palettes import is_whole
from fadeleaf.rows import first
from fadeleaf.runs import joined


def film(place):
    """Tell (tick, what is seen from that tick on) of a place, or of a kept one."""
    palette = place.palette()
    return _film(_lines(palette, [place.row(ink) for ink in palette.names()]))


def picture_ahead(leaf, ticks):
    """Tell at how many neighbours of a leaf the same will be seen, and what, so many ticks ahead."""
    if not is_whole(ticks) or ticks < 0:
        raise NoAmount(ticks)
    return joined([(many, _what(lines, _seen(lines, ticks))) for many, lines in _line_runs(leaf)])


def leaf_film(leaf):
    """Tell (tick, picture from that tick on) of a leaf."""
    manys = []
    changes = {0: []}
    for at, (many, run_film) in enumerate(_film_runs(leaf)):
        manys.append(many)
        for tick, what in run_film:
            changes.setdefault(tick, []).append((at, what))
    found = []
    seen = [None for many in manys]
    for tick in sorted(list(changes)):
        for at, what in changes[tick]:
            seen[at] = what
        # A change at any place is one of the picture: it tells what is seen at each.
        found.append((tick, joined(list(zip(manys, seen)))))
    return found


def next_change(leaf):
    """Tell the tick from which on a leaf's picture is another one than now, None where there is none."""
    return min([run_film[1][0] for many, run_film in _film_runs(leaf) if len(run_film) > 1], default=None)


def last_change(leaf):
    """Tell the tick from which on a leaf's picture is the same for ever."""
    return max([run_film[-1][0] for many, run_film in _film_runs(leaf)], default=0)


def _film_runs(leaf):
    """Tell (many, film) of the runs of a leaf."""
    return [(many, _film(lines)) for many, lines in _line_runs(leaf)]


def _line_runs(leaf):
    """Tell (many, lines) of the runs of a leaf."""
    return [(many, _lines(leaf.palette(), rows)) for many, wear, rows in leaf.runs()]


def _lines(palette, rows):
    """Tell the lines of the rows of all inks, in order."""
    found = []
    for (ink, fade), row in zip(palette.inks(), rows):
        if row:
            tag, strength = row[first(row)]
            found.append((strength, fade, (ink, tag)))
    return found


def _seen(lines, ticks):
    """Tell the number of the line that is seen so many ticks ahead, None where all are gone."""
    found = None
    most = 0
    for at, (strength, fade, what) in enumerate(lines):
        left = strength - ticks * fade
        # Of as strong ones the one that comes first in order stays.
        if left > most:
            found, most = at, left
    return found


def _what(lines, at):
    """Tell ink and tag of the line of a number, None where there is no number."""
    return None if at is None else lines[at][2]


def _film(lines):
    """Tell the film of lines."""
    found = []
    tick = 0
    while tick is not None:
        at = _seen(lines, tick)
        found.append((tick, _what(lines, at)))
        tick = None if at is None else _end(lines, at)
    return found


def _end(lines, at):
    """Tell the first tick at which a line that is seen now is so no more, None where it is for ever."""
    strength, fade, _ = lines[at]
    ticks = []
    if fade > 0:
        ticks.append(_first_tick(strength, fade))
    for other_at, (other_strength, other_fade, what) in enumerate(lines):
        if other_fade < fade:
            # A line behind in order has to be stronger by one, one ahead just as strong.
            lead = strength - other_strength + (1 if other_at > at else 0)
            ticks.append(_first_tick(lead, fade - other_fade))
    return min(ticks, default=None)


def _first_tick(lead, pace):
    """Tell the first tick at which a lead is made up for, at a pace for each tick."""
    return -(-lead // pace)
