"""Plain models of a leaf, a book and a desk: each place by itself, with every layer ever laid.

They are written straight by the document's words and use nothing of the package.
"""

import re

from model import Model, do_part


class Halt(Exception):
    """What is refused: the name of the class, and its fields."""

    def __init__(self, word, **fields):
        super().__init__(word)
        self.word = word
        self.fields = fields


def grouped(things):
    """Things one by one as tuples (many, thing), neighbours unlike."""
    found = []
    for thing in things:
        if found and found[-1][1] == thing:
            found[-1] = (found[-1][0] + 1, thing)
        else:
            found.append((1, thing))
    return found


def spread(pairs):
    """The things of tuples (many, thing), one by one."""
    return [thing for many, thing in pairs for _ in range(many)]


def what(seen):
    """Ink and tag of what is seen."""
    return None if seen is None else seen[:2]


class LeafModel:
    """A leaf, place by place."""

    def __init__(self, inks, many, wear=3):
        self.inks = inks
        self.places = [Model(inks, wear) for _ in range(many)]

    def check(self, begin, end):
        if not 0 <= begin <= end <= len(self.places):
            raise Halt("NoPlaces")

    def do(self, begin, end, deed):
        """A deed of the inks to places from begin to end."""
        self.check(begin, end)
        self.check_deed(deed)
        for at in range(begin, end):
            if self.places[at].copied().refuses(deed):
                raise Halt("Worn", at=at)
        for at in range(begin, end):
            self.places[at].do(deed)

    def check_deed(self, deed):
        if deed[0] in ("lay", "wash", "warm") and deed[1] not in dict(self.inks):
            raise Halt("NoInk", who=deed[1])
        if len(deed) > 1 and deed[-1] < 1:
            raise Halt("NoAmount", who=deed[-1])

    def wait(self, ticks):
        self.do(0, len(self.places), ("wait", ticks))

    def cut(self, begin, end):
        self.check(begin, end)
        leaf = LeafModel(self.inks, 0)
        leaf.places = self.places[begin:end]
        self.places = self.places[:begin] + self.places[end:]
        return leaf

    def insert(self, at, other):
        self.check(at, at)
        added = [place.copied() for place in other.places]
        self.places = self.places[:at] + added + self.places[at:]

    def move(self, word, begin, end, other, at):
        """Graft or press places of another leaf onto those from begin to end."""
        self.check(begin, end)
        other.check(at, at + end - begin)
        moved = [place.copied() for place in other.places[at:at + end - begin]]
        for place, onto in zip(moved, self.places[begin:end]):
            if word == "graft":
                onto.graft(place)
            else:
                onto.press(place)

    def copied(self):
        leaf = LeafModel(self.inks, 0)
        leaf.places = [place.copied() for place in self.places]
        return leaf

    def runs(self):
        told = grouped([(place.wear, place.thinned_rows()) for place in self.places])
        return [(many, wear, rows) for many, (wear, rows) in told]

    def picture(self):
        return grouped([place.seen() for place in self.places])

    def picture_ahead(self, ticks):
        """The picture behind so many ticks, waited for one by one."""
        leaf = self.copied()
        for _ in range(ticks):
            leaf.wait(1)
        return grouped([what(place.seen()) for place in leaf.places])

    def film(self, ticks):
        """The film as far as so many ticks, seen tick by tick."""
        found = []
        leaf = self.copied()
        for tick in range(ticks + 1):
            picture = grouped([what(place.seen()) for place in leaf.places])
            if not found or found[-1][1] != picture:
                found.append((tick, picture))
            leaf.wait(1)
        return found

    def parting_place(self, other):
        """The first place at which two leaves of as many places are unlike, None where none is."""
        for at, (one, two) in enumerate(zip(self.places, other.places)):
            if (one.wear, one.thinned_rows()) != (two.wear, two.thinned_rows()):
                return at
        return None

    def does_part(self, other, at, deeds):
        return do_part(self.places[at], other.places[at], deeds)

    def rows(self):
        """The rows of the leaf's text."""
        found = []
        for many, wear, rows in self.runs():
            found.append("run {} {}".format(many, wear))
            for (ink, _), row in zip(self.inks, rows):
                if row:
                    found.append("  " + ink + "".join(" {} {}".format(tag, strength) for tag, strength in row))
        return found


def film_of(place, ticks):
    """The film of one place as far as so many ticks, seen tick by tick."""
    leaf = LeafModel(place.inks, 0)
    leaf.places = [place]
    return [(tick, picture[0][1]) for tick, picture in leaf.film(ticks)]


def text(rows):
    return "".join(row + "\n" for row in rows)


def model_of_rows(inks, runs):
    """A leaf of runs (many, wear, {ink: layers}), all of its places one by one; many is to be small."""
    leaf = LeafModel(inks, 0)
    for many, wear, rows in runs:
        for _ in range(many):
            place = Model(inks, wear)
            for ink, row in rows.items():
                for tag, strength in row:
                    place.lay(ink, tag, strength)
            leaf.places.append(place)
    return leaf


RUN = re.compile(r"run (\d+) (\d+)")
LAYERS = re.compile(r"  ([a-z]{1,8})((?: [a-z]{1,8} \d+)+)")


def is_leaf(inks, rows):
    """Whether rows are just those of some leaf: read as loosely as can be, and written again."""
    runs = []
    for row in rows:
        run, layers = RUN.fullmatch(row), LAYERS.fullmatch(row)
        if run:
            runs.append((int(run[1]), int(run[2]), {}))
        elif layers and runs and layers[1] in dict(inks):
            words = layers[2].split()
            runs[-1][2][layers[1]] = [(tag, int(n)) for tag, n in zip(words[::2], words[1::2])]
        else:
            return False
    if any(many < 1 or wear > 6 or [n for row in found.values() for _, n in row if n < 1]
           for many, wear, found in runs) or sum(many for many, _, _ in runs) > 10 ** 18:
        return False
    # However many places a run has, its rows are those of one; it is one by itself where its neighbours are unlike.
    again = [model_of_rows(inks, [(1, wear, found)]).runs()[0][1:] for _, wear, found in runs]
    if any(one == two for one, two in zip(again, again[1:])):
        return False
    written = []
    for (many, wear, _), (_, told) in zip(runs, again):
        written.append("run {} {}".format(many, wear))
        for (ink, _), row in zip(inks, told):
            if row:
                written.append("  " + ink + "".join(" {} {}".format(tag, n) for tag, n in row))
    return written == rows


def could_be_leaf(inks, rows):
    """Whether rows are the first ones of some leaf's text: as they are, or with one row of layers more."""
    more = [["  {} zzzzzzzz {}".format(ink, 10 ** 70)] for ink, _ in inks]
    return any(is_leaf(inks, rows + added) for added in [[], *more])


def first_wrong(rows, rest, is_one, could_be):
    """What the field at of NoText is to be of a text of rows with line feeds, and a rest without one; None of none."""
    for many in range(1, len(rows) + 1):
        if not could_be(rows[:many]):
            return many
    return None if rest == "" and is_one(rows) else len(rows) + 1


def parted_book(rows):
    """Inks, ticks and leaves of rows of a book, read as loosely as can be; None of rows that are none."""
    inks, ticks, leaves = [], None, []
    for row in rows:
        ink, tick = re.fullmatch(r"ink ([a-z]{1,8}) (0|[1-9]\d*)", row), re.fullmatch(r"ticks (0|[1-9]\d*)", row)
        leaf = re.fullmatch(r"leaf ([a-z]{1,8})", row)
        if ink and ticks is None:
            inks.append((ink[1], int(ink[2])))
        elif tick and ticks is None:
            ticks = int(tick[1])
        elif leaf and ticks is not None:
            leaves.append((leaf[1], []))
        elif row.startswith("  ") and leaves:
            leaves[-1][1].append(row[2:])
        else:
            return None
    return inks, ticks, leaves


def is_book(rows):
    """Whether rows are just those of some book."""
    told = parted_book(rows)
    if told is None or told[1] is None:
        return False
    inks, _, leaves = told
    names = [name for name, _ in leaves]
    if not 1 <= len(inks) <= 8 or len(dict(inks)) < len(inks) or names != sorted(set(names)):
        return False
    return all(is_leaf(inks, found) for _, found in leaves)


def could_be_book(rows):
    """Whether rows are the first ones of some book's text: as they are, or with rows more."""
    told = parted_book(rows)
    if told is None:
        return False
    inks, ticks, _ = told
    if ticks is None:
        return is_book(rows + ["ticks 0"])
    more = [["    {} zzzzzzzz {}".format(ink, 10 ** 70)] for ink, _ in inks]
    return any(is_book(rows + added) for added in [[], *more])
