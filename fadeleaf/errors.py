"""The errors of the program: one class for each kind of refusal.

An error with fields calls no __init__ of its base class: Python then words it by what it was made of, and
only when it is shown, so that nothing handed in can make the refusal itself go wrong.
"""


class FadeError(ValueError):
    """Under this class stand all refusals that are not under another error of Python's."""


class NoPalette(FadeError):
    """No palette is made of this: at is the number of the first wrong thing, None where it is the list."""

    def __init__(self, at):
        self.at = at


class NoTag(FadeError):
    """who is no tag."""

    def __init__(self, who):
        self.who = who


class NoWear(FadeError):
    """This is no wear of a place."""


class NoDeed(FadeError):
    """This is no deed."""


class NoPlaces(FadeError):
    """These are no places of a leaf, or not so many can be."""


class Unlike(FadeError):
    """Two things that are to be of equal palettes, or as long, are not."""


class NoText(FadeError):
    """The text is not one that is so written: at is the number of the first wrong row, None of no text."""

    def __init__(self, at):
        self.at = at


class NoRow(FadeError):
    """This is no row that a desk knows."""


class NoBook(FadeError):
    """The desk has no book."""


class Halted(FadeError):
    """The row of number at was refused; told are the answers to those ahead."""

    def __init__(self, at, told):
        self.at = at
        self.told = told


class NoInk(LookupError):
    """who is no ink of the palette."""

    def __init__(self, who):
        self.who = who


class NoLayer(LookupError):
    """who is no mark of a layer that is there."""

    def __init__(self, who):
        self.who = who


class NoName(LookupError):
    """who is no name, or nothing is kept by it."""

    def __init__(self, who):
        self.who = who


class NoAmount(ArithmeticError):
    """who is no amount."""

    def __init__(self, who):
        self.who = who


class Worn(RuntimeError):
    """Something is seen and the wear is 0: at is the number of the place, 0 of one by itself."""

    def __init__(self, at=0):
        self.at = at
