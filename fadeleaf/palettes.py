"""Names, amounts, inks, and palettes of inks."""

from fadeleaf.errors import NoInk, NoPalette, NoWear, Unlike

MOST_INKS = 8
MOST_WEAR = 6
WEAR = 3
MOST_PLACES = 1_000_000_000_000_000_000

_LETTERS = "abcdefghijklmnopqrstuvwxyz"
_MOST_LETTERS = 8


def is_whole(thing):
    """Tell whether a thing is a whole number: True and False are ints for Python, but no numbers here."""
    return isinstance(thing, int) and not isinstance(thing, bool)


def is_name(thing):
    """Tell whether a thing is a text of one to eight small letters."""
    if not isinstance(thing, str) or not 1 <= len(thing) <= _MOST_LETTERS:
        return False
    return all([sign in _LETTERS for sign in thing])


def is_amount(thing):
    """Tell whether a thing is a whole number from 1 on."""
    return is_whole(thing) and thing >= 1


def checked_wear(thing):
    """Tell a wear again; anything else is refused."""
    if not is_whole(thing) or not 0 <= thing <= MOST_WEAR:
        raise NoWear("a wear is a whole number from 0 to 6")
    return thing


def is_ink(thing):
    """Tell whether a thing is a tuple of a name and a fade."""
    if not isinstance(thing, tuple) or len(thing) != 2:
        return False
    name, fade = thing
    return is_name(name) and is_whole(fade) and fade >= 0


class Palette:
    """One to eight inks, in their order, no two of one name."""

    def __init__(self, inks):
        if not isinstance(inks, list) or not 1 <= len(inks) <= MOST_INKS:
            raise NoPalette(None)
        self._made = []
        self._fades = {}
        for at, ink in enumerate(inks):
            if not is_ink(ink) or ink[0] in self._fades:
                raise NoPalette(at)
            name, fade = ink
            self._made.append((name, fade))
            self._fades[name] = fade

    def inks(self):
        """Tell the inks, in order."""
        return list(self._made)

    def names(self):
        """Tell the names of the inks, in order."""
        return [ink[0] for ink in self._made]

    def has(self, name):
        """Tell whether anything is the name of an ink of the palette."""
        return is_name(name) and name in self._fades

    def fade(self, name):
        """Tell by how much a layer of an ink is weaker with each tick."""
        if not self.has(name):
            raise NoInk(name)
        return self._fades[name]

    def order(self, name):
        """Tell the number of an ink, from 0."""
        if not self.has(name):
            raise NoInk(name)
        return self.names().index(name)

    def __eq__(self, other):
        # The list is compared, not the dict of fades: dicts of another order are equal, palettes are not.
        return isinstance(other, Palette) and self._made == other._made

    def __len__(self):
        return len(self._made)


def refuse_unlike(one, other):
    """Refuse two palettes that are not equal."""
    if one != other:
        raise Unlike("the palettes are not equal")
