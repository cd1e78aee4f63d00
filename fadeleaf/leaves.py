"""Leaves: very many kept places, as few runs of neighbours that are alike."""

from fadeleaf.deeds import checked
from fadeleaf.errors import NoPlaces, Unlike, Worn
from fadeleaf.kept import Kept, done
from fadeleaf.palettes import MOST_PLACES, WEAR, is_whole, refuse_unlike
from fadeleaf.parting import parting
from fadeleaf.runs import beside, between, joined, length


def refuse_beyond(thing, most):
    """Refuse anything but a whole number from 0 to most."""
    if not is_whole(thing) or not 0 <= thing <= most:
        raise NoPlaces("there are not such places")


def refuse_places(begin, end, many):
    """Refuse anything but a begin and an end of some of so many places."""
    refuse_beyond(end, many)
    refuse_beyond(begin, end)


class Leaf:
    """A palette, and kept places of it, numbered from 0."""

    def __init__(self, palette, many, *, wear=WEAR):
        refuse_beyond(many, MOST_PLACES)
        self._palette = palette
        # A kept place is never changed once it stands in a run, so runs and leaves may share it.
        self._runs = joined([(many, Kept(palette, wear=wear))])

    def palette(self):
        """Tell the palette."""
        return self._palette

    def many(self):
        """Tell how many places there are."""
        return length(self._runs)

    def runs(self):
        """Tell how many neighbours are alike, with their wear and rows, run by run."""
        return [(many, kept.wear(), kept.rows()) for many, kept in self._runs]

    def place(self, at):
        """Tell the kept place of a number."""
        refuse_beyond(at, self.many() - 1)
        _, kept = self.pieces(at, at + 1)[0]
        return kept.copied()

    def picture(self):
        """Tell at how many neighbours the same is seen, and what."""
        return joined([(many, kept.seen()) for many, kept in self._runs])

    def lay(self, begin, end, ink, tag, strength):
        """Lay a layer uppermost in an ink's row of places."""
        self.do(begin, end, ("lay", ink, tag, strength))

    def wash(self, begin, end, ink, n):
        """Let an ink's row of places be weaker by n."""
        self.do(begin, end, ("wash", ink, n))

    def warm(self, begin, end, ink, n):
        """Let an ink's row of places be stronger by n."""
        self.do(begin, end, ("warm", ink, n))

    def scrape(self, begin, end):
        """Scrape what is seen off places; Worn where one of them refuses."""
        self.do(begin, end, ("scrape",))

    def rub(self, begin, end, n):
        """Rub what is seen on places by n; Worn where one of them refuses."""
        self.do(begin, end, ("rub", n))

    def wait(self, ticks):
        """Let each layer of all places be weaker by ticks times the fade of its ink."""
        self.do(0, self.many(), ("wait", ticks))

    def cut(self, begin, end):
        """Take places out; tell a leaf of these."""
        refuse_places(begin, end, self.many())
        leaf = Leaf(self._palette, 0)
        leaf._runs = self.pieces(begin, end)
        self.settle(begin, end, [])
        return leaf

    def insert(self, at, other):
        """Put the places of another leaf, or of this one as it stands, ahead of the place of a number."""
        refuse_beyond(at, self.many())
        refuse_unlike(self._palette, other.palette())
        refuse_beyond(other.many(), MOST_PLACES - self.many())
        self.settle(at, at, other.pieces(0, other.many()))

    def copied(self):
        """Tell a leaf like this one."""
        leaf = Leaf(self._palette, 0)
        leaf._runs = list(self._runs)
        return leaf

    def do(self, begin, end, deed):
        """Do a tuple of a deed's word and as many items as it takes to places."""
        refuse_places(begin, end, self.many())
        checked(deed, self._palette)
        self.settle(begin, end, self._behind(begin, end, deed))

    def pieces(self, begin, end):
        """Tell (many, kept) of places, run by run; these kept places are not to be changed."""
        return between(self._runs, begin, end)

    def settle(self, begin, end, pieces):
        """Let pieces stand where the places from begin to end stood."""
        self._runs = joined(self.pieces(0, begin) + pieces + self.pieces(end, self.many()))

    def __eq__(self, other):
        return isinstance(other, Leaf) and self._palette == other._palette and self._runs == other._runs

    def __len__(self):
        return len(self._runs)

    def _behind(self, begin, end, deed):
        """Tell the pieces of places behind a deed; Worn has the number of the first place that refuses."""
        found = []
        at = begin
        for many, kept in self.pieces(begin, end):
            try:
                found.append((many, done(kept, [deed])))
            except Worn:
                raise Worn(at) from None
            at += many
        return found


def leaf_parting(one, other):
    """Tell the first place at which two leaves are unlike, and deeds that part the two places; None where none is."""
    refuse_unlike(one.palette(), other.palette())
    if one.many() != other.many():
        raise Unlike("the leaves have not as many places")
    at = 0
    for many, kept, other_kept in beside(one.pieces(0, one.many()), other.pieces(0, other.many())):
        deeds = parting(kept, other_kept)
        if deeds is not None:
            return at, deeds
        at += many
    return None
