"""Deeds as tuples: a word, and what it is done with."""

from fadeleaf.errors import NoAmount, NoInk, NoTag
from fadeleaf.palettes import is_amount, is_name

_KINDS = {
    "lay": ("ink", "tag", "amount"),
    "wait": ("amount",),
    "wash": ("ink", "amount"),
    "warm": ("ink", "amount"),
    "scrape": (),
    "rub": ("amount",),
}


def is_deed(thing, palette):
    """Tell whether anything is a deed of a palette."""
    # The word is asked for being a text first: other objects may call themselves equal to any word.
    if not isinstance(thing, tuple) or len(thing) == 0 or not isinstance(thing[0], str):
        return False
    word, *rest = thing
    if word not in _KINDS or len(rest) != len(_KINDS[word]):
        return False
    return all([_is_kind(item, kind, palette) for item, kind in zip(rest, _KINDS[word])])


def are_deeds(thing, palette):
    """Tell whether anything is a list of deeds of a palette."""
    return isinstance(thing, list) and all([is_deed(deed, palette) for deed in thing])


def wears(deed):
    """Tell whether a deed is a scrape or a rub."""
    return deed[0] in ("scrape", "rub")


def checked(deed, palette):
    """Tell a tuple of a deed's word and as many items as it takes; the first wrong item is refused by its kind."""
    word, *rest = deed
    for item, kind in zip(rest, _KINDS[word]):
        if not _is_kind(item, kind, palette):
            _refuse(item, kind)
    return deed


def _is_kind(item, kind, palette):
    """Tell whether anything is of a kind of a deed's items."""
    if kind == "ink":
        return palette.has(item)
    if kind == "tag":
        return is_name(item)
    return is_amount(item)


def _refuse(item, kind):
    """Refuse what is not of its kind."""
    if kind == "ink":
        raise NoInk(item)
    if kind == "tag":
        raise NoTag(item)
    raise NoAmount(item)
