"""Deeds as tuples: a word, and what it is done with."""

from fadeleaf.palettes import is_amount, is_name


def is_deed(thing, palette):
    """Tell whether anything is a deed of a palette."""
    # The word is asked for being a text first: other objects may call themselves equal to any word.
    if not isinstance(thing, tuple) or len(thing) == 0 or not isinstance(thing[0], str):
        return False
    word, *rest = thing
    if word == "lay":
        return len(rest) == 3 and palette.has(rest[0]) and is_name(rest[1]) and is_amount(rest[2])
    if word in ("wash", "warm"):
        return len(rest) == 2 and palette.has(rest[0]) and is_amount(rest[1])
    if word in ("wait", "rub"):
        return len(rest) == 1 and is_amount(rest[0])
    return word == "scrape" and len(rest) == 0


def wears(deed):
    """Tell whether a deed is a scrape or a rub."""
    return deed[0] in ("scrape", "rub")
