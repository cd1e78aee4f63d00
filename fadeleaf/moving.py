"""Grafting and pressing places of a leaf onto those of another one, or of the same."""

from fadeleaf.leaves import refuse_beyond, refuse_places
from fadeleaf.palettes import refuse_unlike
from fadeleaf.runs import beside


def graft_onto(leaf, begin, end, other, *, at=0):
    """Graft as many places of another leaf, from the number at on, onto those of a leaf from begin to end."""
    pieces = _copies_beside(leaf, begin, end, other, at)
    for _, kept, other_kept in pieces:
        kept.graft(other_kept)
    leaf.settle(begin, end, [(many, kept) for many, kept, other_kept in pieces])


def press_onto(leaf, begin, end, other, *, at=0):
    """Press as many places of another leaf, from the number at on, onto those of a leaf from begin to end."""
    pieces = _copies_beside(leaf, begin, end, other, at)
    for _, kept, other_kept in pieces:
        kept.press(other_kept)
    leaf.settle(begin, end, [(many, kept) for many, kept, other_kept in pieces])


def _copies_beside(leaf, begin, end, other, at):
    """Tell (many, kept, other) of places: a copy of the kept place, and the other one to be put onto it."""
    refuse_places(begin, end, leaf.many())
    refuse_unlike(leaf.palette(), other.palette())
    many = end - begin
    refuse_beyond(at, other.many() - many)
    found = beside(leaf.pieces(begin, end), other.pieces(at, at + many))
    return [(step, kept.copied(), other_kept) for step, kept, other_kept in found]
