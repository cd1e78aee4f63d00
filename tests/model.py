"""A plain model of places that keeps every layer ever laid, and deeds drawn for it with fixed seeds.

It is written straight by the document's words and uses nothing of the package.
"""


class Refused(Exception):
    """The wear is 0 and something is seen."""


class Layer:
    """One layer ever laid. Its number among all of its place is its mark, and tells how high it lies."""

    def __init__(self, ink, tag, strength, mark):
        self.ink = ink
        self.tag = tag
        self.strength = strength
        self.mark = mark
        self.there = True

    def weaken(self, n):
        self.strength -= n
        if self.strength <= 0:
            self.there = False

    def is_ahead(self, other):
        """Whether it ranks ahead of another one of its ink."""
        return self.strength > other.strength or self.strength == other.strength and self.mark > other.mark


class Model:
    """A place with all its layers, those that are gone, too."""

    def __init__(self, inks, wear):
        self.inks = inks
        self.wear = wear
        self.layers = []
        self.worn = 0

    def of(self, ink):
        """The layers of an ink that are there, the lowest first."""
        return [layer for layer in self.layers if layer.there and layer.ink == ink]

    def row(self, ink):
        return tuple((layer.tag, layer.strength) for layer in self.of(ink))

    def marks(self, ink):
        return [layer.mark for layer in self.of(ink)]

    def rank(self, mark):
        own = self.layers[mark]
        return len([layer for layer in self.of(own.ink) if layer.is_ahead(own)])

    def seen_layer(self):
        best = None
        for ink, _ in self.inks:
            for layer in self.of(ink):
                if self.rank(layer.mark) == 0 and (best is None or layer.strength > best.strength):
                    best = layer
        return best

    def seen(self):
        layer = self.seen_layer()
        return None if layer is None else (layer.ink, layer.tag, layer.strength)

    def seen_mark(self):
        layer = self.seen_layer()
        return None if layer is None else layer.mark

    def thinned_row(self, ink):
        """The ink's row, thinned to wear and 1, made normal."""
        row = [(layer.tag, layer.strength) for layer in self.of(ink) if self.rank(layer.mark) <= self.wear]
        for _ in row:
            for at in range(len(row) - 1):
                if row[at][0] == row[at + 1][0] and row[at][1] > row[at + 1][1]:
                    row[at], row[at + 1] = row[at + 1], row[at]
        return tuple(row)

    def thinned_rows(self):
        return tuple(self.thinned_row(ink) for ink, _ in self.inks)

    def lay(self, ink, tag, strength):
        self.layers.append(Layer(ink, tag, strength, len(self.layers)))

    def do(self, deed):
        word = deed[0]
        if word == "lay":
            self.lay(*deed[1:])
        elif word == "wait":
            for ink, fade in self.inks:
                for layer in self.of(ink):
                    layer.weaken(deed[1] * fade)
        elif word in ("wash", "warm"):
            for layer in self.of(deed[1]):
                layer.weaken(deed[2] if word == "wash" else -deed[2])
        else:
            self.wear_down(deed)

    def wear_down(self, deed):
        layer = self.seen_layer()
        if layer is None:
            return
        if self.wear == 0:
            raise Refused
        self.wear -= 1
        self.worn += 1
        if deed[0] == "scrape":
            layer.there = False
        else:
            layer.weaken(deed[1])

    def refuses(self, deed):
        """Whether it refuses a deed; where it doesn't, the deed is done."""
        try:
            self.do(deed)
        except Refused:
            return True
        return False

    def graft(self, other):
        self.wear = min(self.wear, other.wear)
        for ink, _ in self.inks:
            for tag, strength in other.row(ink):
                self.lay(ink, tag, strength)

    def press(self, other):
        seen = other.seen()
        if seen is not None and seen[2] // 2 > 0:
            self.lay(seen[0], seen[1], seen[2] // 2)

    def copied(self):
        other = Model(self.inks, self.wear)
        for layer in self.layers:
            other.lay(layer.ink, layer.tag, layer.strength)
            other.layers[-1].there = layer.there
        return other


def behind(inks, wear, deeds):
    """A model of a place behind deeds; those that it refuses are left out."""
    model = Model(inks, wear)
    for deed in deeds:
        model.refuses(deed)
    return model


def do_part(one, other, deeds):
    """Whether deeds part two models."""
    one, other = one.copied(), other.copied()
    for at, deed in enumerate(deeds):
        refused = [one.refuses(deed), other.refuses(deed)]
        if True in refused:
            return False in refused and at == len(deeds) - 1
    return one.seen() != other.seen()


class Draws:
    """Numbers that look drawn by lot, the same ones for the same seed on each Python."""

    def __init__(self, seed):
        self.state = seed * 2654435761 + 12345

    def below(self, n):
        self.state = (self.state * 6364136223846793005 + 1442695040888963407) % 2 ** 64
        return (self.state >> 33) % n

    def pick(self, things):
        return things[self.below(len(things))]

    def inks(self):
        """One to four inks, some without fade, of names that aren't in the order of letters."""
        return [(name, self.below(3)) for name in ["sun", "sky", "red", "a"][:1 + self.below(4)]]

    def deed(self, inks, most=6):
        """A deed of some inks, a layer laid more often than all else, amounts up to most."""
        word = self.pick(["lay"] * 8 + ["wait", "wash", "wash", "warm", "warm", "scrape", "rub", "rub"])
        ink, n = self.pick(inks)[0], 1 + self.below(most)
        if word == "lay":
            return ("lay", ink, self.pick(["a", "b", "red"]), n)
        if word in ("wash", "warm"):
            return (word, ink, 1 + n // 2)
        if word == "wait":
            return ("wait", 1 + n // 3)
        return ("rub", n) if word == "rub" else ("scrape",)

    def deeds(self, inks, many, most=6):
        return [self.deed(inks, most) for _ in range(many)]
