"""Books of leaves by names, their deeds, and what they are marked by."""

from fadeleaf.errors import NoAmount, NoDeed, NoName
from fadeleaf.leaves import Leaf
from fadeleaf.moving import graft_onto, press_onto
from fadeleaf.palettes import WEAR, is_amount, is_name, refuse_unlike

_KINDS = {
    "lay": ("place", "place", "ink", "tag", "amount"),
    "wash": ("place", "place", "ink", "amount"),
    "warm": ("place", "place", "ink", "amount"),
    "scrape": ("place", "place"),
    "rub": ("place", "place", "amount"),
    "cut": ("place", "place"),
    "insert": ("place", "leaf"),
    "press": ("place", "place", "leaf", "place"),
    "graft": ("place", "place", "leaf", "place"),
}


def deed_kinds(word):
    """Tell of which kinds the items behind the word of a book's deed are, None where a text is no such word."""
    return _KINDS.get(word)


class Book:
    """A palette, leaves of it by names, and all ticks that were waited for."""

    def __init__(self, palette):
        self._palette = palette
        self._ticks = 0
        # A leaf is never changed once it is kept here: deeds are done to a copy, so marks and copies may share it.
        self._leaves = {}
        self._marks = {}

    def palette(self):
        """Tell the palette."""
        return self._palette

    def ticks(self):
        """Tell all the ticks that were waited for."""
        return self._ticks

    def names(self):
        """Tell the names by which leaves are kept."""
        return sorted(list(self._leaves))

    def make(self, name, many, *, wear=WEAR):
        """Make a leaf by a name."""
        _refuse_no_name(name)
        self._leaves[name] = Leaf(self._palette, many, wear=wear)

    def put(self, name, leaf):
        """Put a copy of a leaf in by a name."""
        _refuse_no_name(name)
        refuse_unlike(self._palette, leaf.palette())
        self._leaves[name] = leaf.copied()

    def drop(self, name):
        """Drop the leaf of a name."""
        _refuse_missing(name, self._leaves)
        del self._leaves[name]

    def leaf(self, name):
        """Tell a copy of the leaf of a name."""
        _refuse_missing(name, self._leaves)
        return self._leaves[name].copied()

    def do(self, name, deed):
        """Do a book's deed to the leaf of a name."""
        leaf = self.leaf(name)
        if not _is_book_deed(deed):
            raise NoDeed("this is no deed of a book")
        word, *items = deed
        # At most one item is the name of another leaf; it may be the name of this one, too.
        others = [self.leaf(item) for item, kind in zip(items, _KINDS[word]) if kind == "leaf"]
        if others:
            _do_with(leaf, others[0], word, items)
        elif word == "cut":
            leaf.cut(*items)
        else:
            begin, end, *rest = items
            leaf.do(begin, end, (word, *rest))
        self._leaves[name] = leaf

    def wait(self, ticks):
        """Let all layers of all leaves be weaker by ticks times the fade of their inks."""
        if not is_amount(ticks):
            raise NoAmount(ticks)
        for name in self.names():
            leaf = self.leaf(name)
            leaf.wait(ticks)
            self._leaves[name] = leaf
        self._ticks += ticks

    def mark(self, name):
        """Keep leaves and ticks as they stand by a name."""
        _refuse_no_name(name)
        self._marks[name] = (self._ticks, dict(self._leaves))

    def back(self, name):
        """Stand as when last marked by a name."""
        _refuse_missing(name, self._marks)
        ticks, leaves = self._marks[name]
        self._ticks = ticks
        self._leaves = dict(leaves)

    def marked(self):
        """Tell the names by which the book is marked."""
        return sorted(list(self._marks))

    def copied(self):
        """Tell a book like this one, marked likewise."""
        book = Book(self._palette)
        book._ticks = self._ticks
        book._leaves = dict(self._leaves)
        # What a name is marked with is put anew when it is marked again, never changed.
        book._marks = dict(self._marks)
        return book

    def __eq__(self, other):
        return (
            isinstance(other, Book)
            and self._palette == other._palette
            and self._ticks == other._ticks
            and self._leaves == other._leaves
        )

    def __len__(self):
        return len(self._leaves)


def _refuse_no_name(name):
    """Refuse what is no name."""
    if not is_name(name):
        raise NoName(name)


def _refuse_missing(name, kept):
    """Refuse what is no name by which something is kept."""
    if not is_name(name) or name not in kept:
        raise NoName(name)


def _is_book_deed(thing):
    """Tell whether anything is a tuple of the word of a book's deed and as many items as it takes."""
    # The word is asked for being a text first: other objects may call themselves equal to any word.
    if not isinstance(thing, tuple) or len(thing) == 0 or not isinstance(thing[0], str):
        return False
    kinds = deed_kinds(thing[0])
    return kinds is not None and len(thing) == len(kinds) + 1


def _do_with(leaf, other, word, items):
    """Do a deed to a leaf in which another leaf has a part."""
    if word == "insert":
        leaf.insert(items[0], other)
        return
    begin, end, _, at = items
    if word == "press":
        press_onto(leaf, begin, end, other, at=at)
    else:
        graft_onto(leaf, begin, end, other, at=at)
