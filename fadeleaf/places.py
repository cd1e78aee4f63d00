"""Places with all their layers, each of which has a mark."""

from fadeleaf.deeds import checked, is_deed
from fadeleaf.errors import NoDeed, NoInk
from fadeleaf.grounds import bare_ground, ground_behind, pressed, seen_on, wear_behind
from fadeleaf.palettes import WEAR, checked_wear, refuse_unlike


class Place:
    """A palette, a wear, and a row of layers for each ink, at first without layers."""

    def __init__(self, palette, *, wear=WEAR):
        self._palette = palette
        self._wear = checked_wear(wear)
        # In place of its tag each layer has a pair of its tag and its mark: so what moves layers moves marks.
        self._ground = bare_ground(palette)
        self._next_mark = 0

    def palette(self):
        """Tell the palette."""
        return self._palette

    def wear(self):
        """Tell how many scrapes and rubs the place still bears."""
        return self._wear

    def row(self, ink):
        """Tell the row of an ink."""
        return tuple([(tag, strength) for (tag, mark), strength in self._marked_row(ink)])

    def marks(self, ink):
        """Tell the marks of an ink's layers, the lowest first."""
        return [mark for (tag, mark), strength in self._marked_row(ink)]

    def seen(self):
        """Tell what is seen: ink, tag and strength, None where there is no layer."""
        seen = seen_on(self._ground)
        if seen is None:
            return None
        ink, (tag, _), strength = seen
        return ink, tag, strength

    def seen_mark(self):
        """Tell the mark of the layer that is seen, None where there is none."""
        seen = seen_on(self._ground)
        return None if seen is None else seen[1][1]

    def lay(self, ink, tag, strength):
        """Lay a layer uppermost in an ink's row; tell its mark."""
        checked(("lay", ink, tag, strength), self._palette)
        mark = self._next_mark
        self._take(("lay", ink, (tag, mark), strength))
        self._next_mark = mark + 1
        return mark

    def wait(self, ticks):
        """Let each layer be weaker by ticks times the fade of its ink."""
        self._take(checked(("wait", ticks), self._palette))

    def wash(self, ink, n):
        """Let an ink's row be weaker by n."""
        self._take(checked(("wash", ink, n), self._palette))

    def warm(self, ink, n):
        """Let an ink's row be stronger by n."""
        self._take(checked(("warm", ink, n), self._palette))

    def scrape(self):
        """Scrape the row of what is seen; Worn where the wear is 0."""
        self._take(("scrape",))

    def rub(self, n):
        """Rub the row of what is seen by n; Worn where the wear is 0."""
        self._take(checked(("rub", n), self._palette))

    def do(self, deed):
        """Do a deed; NoDeed refuses what is none."""
        if not is_deed(deed, self._palette):
            raise NoDeed("this is no deed of the palette")
        word, *rest = deed
        if word == "lay":
            self.lay(*rest)
        else:
            self._take(deed)

    def graft(self, other):
        """Put the layers of another place, or of this one as it stands, on top of those here."""
        refuse_unlike(self._palette, other.palette())
        self._wear = min(self._wear, other.wear())
        for ink in self._palette.names():
            row = other.row(ink)
            added = [((tag, mark), strength) for mark, (tag, strength) in enumerate(row, start=self._next_mark)]
            self._ground = {**self._ground, ink: self._ground[ink] + tuple(added)}
            self._next_mark += len(added)

    def press(self, other):
        """Lay what is seen on another place, or on this one, of half its strength."""
        refuse_unlike(self._palette, other.palette())
        layer = pressed(other.seen())
        if layer is not None:
            self.lay(*layer)

    def copied(self):
        """Tell a place like this one, which also gives the same marks from now on."""
        place = Place(self._palette, wear=self._wear)
        place._ground = dict(self._ground)
        place._next_mark = self._next_mark
        return place

    def __eq__(self, other):
        # Which mark comes next has no bearing: places are equal by the layers that are there.
        return (
            isinstance(other, Place)
            and self._palette == other._palette
            and self._wear == other._wear
            and self._ground == other._ground
        )

    def _marked_row(self, ink):
        """Tell the row of an ink, with pairs of tag and mark for tags."""
        if not self._palette.has(ink):
            raise NoInk(ink)
        return self._ground[ink]

    def _take(self, deed):
        """Do a deed of the palette, of which a layer's tag is a pair of tag and mark."""
        # The wear is told first, since it is what may be refused: nothing is changed then.
        wear = wear_behind(self._wear, self._ground, deed)
        self._ground = ground_behind(self._ground, self._palette, deed)
        self._wear = wear
