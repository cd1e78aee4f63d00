"""Leaves written as texts, and read back."""

from fadeleaf.kept import Kept
from fadeleaf.leaves import Leaf
from fadeleaf.palettes import MOST_PLACES, MOST_WEAR, is_name
from fadeleaf.texts import is_number, read_rows, text_of


def leaf_text(leaf):
    """Tell the text of a leaf."""
    return text_of(leaf_rows(leaf))


def read_leaf(palette, text):
    """Tell the leaf of a palette of which this is the text."""
    reader = LeafReader(palette)
    read_rows(reader, text)
    return reader.leaf()


def leaf_rows(leaf):
    """Tell the rows of a leaf's text, without line feeds."""
    found = []
    inks = leaf.palette().names()
    for many, wear, rows in leaf.runs():
        found.append(f"run {many} {wear}")
        for ink, row in zip(inks, rows):
            if row:
                layers = [f"{tag} {strength}" for tag, strength in row]
                found.append("  " + " ".join([ink] + layers))
    return found


class LeafReader:
    """Takes the rows of a leaf's text, one behind another, as long as each can stand where it does."""

    def __init__(self, palette):
        self._palette = palette
        self._left = MOST_PLACES
        self._runs = []
        # The inks of which the last run may still have a row.
        self._inks = []

    def takes(self, row):
        """Tell whether a row can stand behind those taken, and take it then."""
        if row.startswith("  "):
            return self._takes_layers(row[2:].split(" "))
        return self._takes_run(row.split(" "))

    def may_end(self):
        """Tell whether the rows that were taken are the text of a leaf."""
        # Else the last run could stand with the one ahead: it must have more rows.
        return len(self._runs) < 2 or self._runs[-1][1] != self._runs[-2][1]

    def leaf(self):
        """Tell the leaf."""
        leaf = Leaf(self._palette, 0)
        leaf.settle(0, 0, self._runs)
        return leaf

    def _takes_run(self, words):
        """Tell whether the words of a row are those of a run that can stand here, and take it then."""
        if len(words) != 3 or words[0] != "run" or not is_number(words[1]) or not is_number(words[2]):
            return False
        many, wear = int(words[1]), int(words[2])
        if not self.may_end() or not 1 <= many <= self._left or wear > MOST_WEAR:
            return False
        self._runs.append((many, Kept(self._palette, wear=wear)))
        self._left -= many
        self._inks = self._palette.names()
        return True

    def _takes_layers(self, words):
        """Tell whether the words of a row are an ink and its layers that can stand here, and take them then."""
        ink, *rest = words
        row = _layers(rest)
        if ink not in self._inks or not row:
            return False
        _, kept = self._runs[-1]
        for tag, strength in row:
            kept.lay(ink, tag, strength)
        self._inks = self._inks[self._inks.index(ink) + 1:]
        # A row that is not thinned, or not normal, is told as another one.
        return kept.row(ink) == row and (self.may_end() or len(self._inks) > 0)


def _layers(words):
    """Tell the row of which these are the words, None where they are of none."""
    tags, strengths = words[::2], words[1::2]
    if len(tags) != len(strengths) or not all([is_name(tag) for tag in tags]):
        return None
    if not all([is_number(strength) and strength != "0" for strength in strengths]):
        return None
    return tuple([(tag, int(strength)) for tag, strength in zip(tags, strengths)])
