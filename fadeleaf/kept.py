"""Places that keep just those layers that could ever be seen, in one normal form."""

from fadeleaf.deeds import checked, is_deed
from fadeleaf.errors import NoDeed, NoInk
from fadeleaf.grounds import bare_ground, ground_behind, pressed, seen_on, wear_behind
from fadeleaf.palettes import WEAR, checked_wear, refuse_unlike
from fadeleaf.rows import normal, thinned


class Kept:
    """A place without marks, each row of which is thinned to wear and 1, and normal."""

    def __init__(self, palette, *, wear=WEAR):
        self._palette = palette
        self._wear = checked_wear(wear)
        self._ground = bare_ground(palette)

    def palette(self):
        """Tell the palette."""
        return self._palette

    def wear(self):
        """Tell how many scrapes and rubs the place still bears."""
        return self._wear

    def row(self, ink):
        """Tell the row of an ink."""
        if not self._palette.has(ink):
            raise NoInk(ink)
        return self._ground[ink]

    def rows(self):
        """Tell the rows of all inks, in order."""
        return tuple(self._ground.values())

    def seen(self):
        """Tell what is seen: ink, tag and strength, None where there is no layer."""
        return seen_on(self._ground)

    def lay(self, ink, tag, strength):
        """Lay a layer uppermost in an ink's row."""
        self._take(checked(("lay", ink, tag, strength), self._palette))

    def wait(self, ticks):
        """Let each layer be weaker by ticks times the fade of its ink."""
        self._take(checked(("wait", ticks), self._palette))

    def wash(self, ink, n):
        """Let an ink's row be weaker by n."""
        self._take(checked(("wash", ink, n), self._palette))

    def warm(self, ink, n):
        """Let an ink's row be stronger by n."""
        self._take(checked(("warm", ink, n), self._palette))

    def scrape(self):
        """Scrape the row of what is seen; Worn where the wear is 0."""
        self._take(("scrape",))

    def rub(self, n):
        """Rub the row of what is seen by n; Worn where the wear is 0."""
        self._take(checked(("rub", n), self._palette))

    def do(self, deed):
        """Do a deed; NoDeed refuses what is none."""
        if not is_deed(deed, self._palette):
            raise NoDeed("this is no deed of the palette")
        self._take(deed)

    def graft(self, other):
        """Put the layers of another place, or of this one as it stands, on top of those here."""
        refuse_unlike(self._palette, other.palette())
        ground = {ink: row + other.row(ink) for ink, row in self._ground.items()}
        self._settle(min(self._wear, other.wear()), ground)

    def press(self, other):
        """Lay what is seen on another place, or on this one, of half its strength."""
        refuse_unlike(self._palette, other.palette())
        layer = pressed(other.seen())
        if layer is not None:
            self.lay(*layer)

    def copied(self):
        """Tell a kept place like this one."""
        return kept_of(self)

    def __eq__(self, other):
        return (
            isinstance(other, Kept)
            and self._palette == other._palette
            and self._wear == other._wear
            and self._ground == other._ground
        )

    def _take(self, deed):
        """Do a deed of the palette."""
        wear = wear_behind(self._wear, self._ground, deed)
        self._settle(wear, ground_behind(self._ground, self._palette, deed))

    def _settle(self, wear, ground):
        """Stand with a wear, and with just what of a ground could ever be seen then."""
        self._wear = wear
        self._ground = {ink: normal(thinned(row, wear + 1)) for ink, row in ground.items()}


def kept_of(place):
    """Tell the kept place that tells for ever what a place tells."""
    kept = Kept(place.palette(), wear=place.wear())
    # Grafted onto a bare place of its own wear, a place keeps its wear and is thinned and made normal.
    kept.graft(place)
    return kept


def done(kept, deeds):
    """Tell a kept place behind a list of deeds; the handed one stays."""
    left = kept.copied()
    for deed in deeds:
        left.do(deed)
    return left
