"""Plain models of a book and of a desk, of leaves place by place, and rows drawn for them.

They are written straight by the document's words and use nothing of the package.
"""

import re

from leafmodel import Halt, LeafModel, film_of, text, what

NAME, NUMBER = "[a-z]{1,8}", "(?:0|[1-9][0-9]*)"
DEEDS = {
    "lay": "# # ink tag n", "wash": "# # ink n", "warm": "# # ink n", "scrape": "# #", "rub": "# # n", "cut": "# #",
    "insert": "# leaf", "press": "# # leaf #", "graft": "# # leaf #",
}
ROWS = {
    "book(?: {0} {1}){{1,8}}": "book", "make {0} {1} {1}": "make", "drop {0}": "drop", "wait {1}": "wait",
    "mark {0}": "mark", "back {0}": "back", "seen {0} {1}": "seen", "wear {0} {1}": "wear", "runs {0}": "runs",
    "picture {0} {1}": "picture", "film {0} {1}": "film", "part {0} {0}": "part", "show {0}": "show", "text": "text",
}
for _word, _items in DEEDS.items():
    _kinds = ["{1}" if item in ("#", "n") else "{0}" for item in _items.split()]
    ROWS[" ".join(["do {0}", _word, *_kinds])] = "do"
PATTERNS = [(re.compile(row.format(NAME, NUMBER)), word) for row, word in ROWS.items()]


class BookModel:
    """A book of leaves, place by place."""

    def __init__(self, inks):
        self.inks = inks
        self.ticks = 0
        self.leaves = {}
        self.marks = {}

    def leaf(self, name):
        if name not in self.leaves:
            raise Halt("NoName", who=name)
        return self.leaves[name]

    def make(self, name, many, wear):
        if many > 10 ** 18:
            raise Halt("NoPlaces")
        if wear > 6:
            raise Halt("NoWear")
        self.leaves[name] = LeafModel(self.inks, many, wear)

    def drop(self, name):
        self.leaf(name)
        del self.leaves[name]

    def wait(self, ticks):
        if ticks < 1:
            raise Halt("NoAmount", who=ticks)
        for leaf in self.leaves.values():
            leaf.wait(ticks)
        self.ticks += ticks

    def do(self, name, deed):
        leaf = self.leaf(name)
        word, *items = deed
        if word not in DEEDS or len(items) != len(DEEDS[word].split()):
            raise Halt("NoDeed")
        if word == "cut":
            leaf.cut(*items)
        elif word == "insert":
            leaf.insert(items[0], self.leaf(items[1]).copied())
        elif word in ("press", "graft"):
            leaf.move(word, items[0], items[1], self.leaf(items[2]).copied(), items[3])
        else:
            leaf.do(items[0], items[1], (word, *items[2:]))

    def mark(self, name):
        self.marks[name] = (self.ticks, {one: leaf.copied() for one, leaf in self.leaves.items()})

    def back(self, name):
        if name not in self.marks:
            raise Halt("NoName", who=name)
        self.ticks = self.marks[name][0]
        self.leaves = {one: leaf.copied() for one, leaf in self.marks[name][1].items()}

    def copied(self):
        book = BookModel(self.inks)
        book.ticks, book.marks = self.ticks, dict(self.marks)
        book.leaves = {one: leaf.copied() for one, leaf in self.leaves.items()}
        return book

    def rows(self):
        """The rows of the book's text."""
        rows = ["ink {} {}".format(*ink) for ink in self.inks] + ["ticks {}".format(self.ticks)]
        for name in sorted(self.leaves):
            rows += ["leaf " + name] + ["  " + row for row in self.leaves[name].rows()]
        return rows

    def told(self):
        """All that a book has to tell but what it is marked with."""
        return (self.inks, self.ticks, sorted(self.leaves), len(self.leaves), sorted(self.marks),
                [self.leaves[name].runs() for name in sorted(self.leaves)])


class DeskModel:
    """A desk, row by row."""

    def __init__(self):
        self.book = None
        self.answered = 0

    def say(self, row):
        """The answer to a row; of a row that parts two leaves what there is to say but the deeds."""
        told = [word for pattern, word in PATTERNS if pattern.fullmatch(row)]
        if not told:
            raise Halt("NoRow")
        words = [int(word) if word.isdigit() else word for word in row.split()]
        if told[0] == "book":
            pairs = list(zip(words[1::2], words[2::2]))
            for at, (ink, _) in enumerate(pairs):
                if ink in dict(pairs[:at]):
                    raise Halt("NoPalette", at=at)
            self.book = BookModel(pairs)
            answer = "ok"
        elif self.book is None:
            raise Halt("NoBook")
        else:
            answer = self.answer(told[0], words[1:])
        self.answered += 1
        return answer

    def answer(self, word, items):
        if word in ("make", "drop", "wait", "mark", "back"):
            getattr(self.book, word)(*items)
            return "ok"
        if word == "do":
            self.book.do(items[0], tuple(items[1:]))
            return "ok"
        if word == "text":
            return text(self.book.rows())
        leaf = self.book.leaf(items[0])
        if word in ("seen", "wear", "film"):
            return self.of_place(word, leaf, items[1])
        if word == "runs":
            return str(len(leaf.runs()))
        if word == "picture":
            return ", ".join("{} {}".format(many, named(one)) for many, one in leaf.picture_ahead(items[1]))
        return text(leaf.rows()) if word == "show" else self.part(leaf, self.book.leaf(items[1]))

    def of_place(self, word, leaf, at):
        if at >= len(leaf.places):
            raise Halt("NoPlaces")
        place = leaf.places[at]
        if word == "film":
            # No layer that is drawn comes to be as strong as this.
            return ", ".join("{} {}".format(tick, named(one)) for tick, one in film_of(place, 80))
        return named(place.seen()) if word == "seen" else str(place.wear)

    def part(self, leaf, other):
        if len(leaf.places) != len(other.places):
            raise Halt("Unlike")
        at = leaf.parting_place(other)
        return "never" if at is None else "{}:".format(at)


def named(seen):
    """What is seen, as words."""
    return "nothing" if seen is None else " ".join(str(one) for one in seen)


def drawn_deed(draws, names, inks, many=8):
    """A book's deed, now and then one that is wrong in a number, an ink or a name."""
    word = draws.pick(["lay"] * 6 + ["wash", "warm", "scrape", "rub", "cut", "insert", "press", "press", "graft"])
    begin, end = draws.below(many), draws.below(many)
    if draws.below(10) > 0:
        begin, end = min(begin, end), max(begin, end)
    told = {"n": draws.below(9), "ink": draws.pick([name for name, _ in inks] * 3 + ["moon"]),
            "tag": draws.pick(["a", "b", "red"]), "leaf": draws.pick(names)}
    places = [begin, end, draws.below(1 + many // 4)]
    return (word, *[places.pop(0) if item == "#" else told[item] for item in DEEDS[word].split()])


def drawn_row(draws, names, inks, sizes):
    """A row of a desk, now and then one that is refused; sizes are how many places the leaves have by their names."""
    name, other, lot = draws.pick(names), draws.pick(names), draws.below(40)
    if lot < 18:
        deed = drawn_deed(draws, names, inks, sizes.get(name, 6) + 1)
        if deed[0] in ("insert", "graft") and sizes.get(name, 0) > 30:
            deed = ("cut", 0, 20)
        return " ".join(str(word) for word in ("do", name, *deed))
    rows = [
        "make {} {} {}".format(name, draws.below(7), draws.below(7)), "make {} 6 3".format(name),
        "make {} 5 3".format(other), "drop " + name, "wait {}".format(draws.below(4)), "mark " + name, "back " + name,
        "seen {} {}".format(name, draws.below(6)), "wear {} {}".format(name, draws.below(6)), "runs " + name,
        "picture {} {}".format(name, draws.below(6)), "film {} {}".format(name, draws.below(6)),
        "part {} {}".format(name, other), "show " + name, "text", draws.pick(NO_ROWS), "make a 6 7",
        "make a {} 0".format(10 ** 18 + 1), "part {} {}".format(other, name), "picture {} 0".format(name),
    ]
    if lot == 18 and draws.below(4) == 0:
        return draws.pick(["book " + " ".join("{} {}".format(*ink) for ink in inks), "book sun 1 sun 2"])
    return draws.pick(rows)


NO_ROWS = [
    "", " ", "nothing", "Text", "text ", " text", "text  ", "text a", "text\n", "\ntext", "show", "show ", "show a b",
    "show A", "show a1", "show abcdefghi", "show 1", "book", "book ", "book sun", "book sun 1 sky", "book 1 sun",
    "book Sun 1", "book sun -1", "book sun 01", "book sun +1", "book sun 1 ", "book  sun 1", "book sun  1", "wait",
    "book " + " ".join("{} 1".format(ink) for ink in "abcdefghi"), "wait a", "wait -1", "wait 01", "wait 1 1",
    "wait 00",
    "wait +1", "wait 1_0", "wait 0x1", "wait  1", "make a", "make a 1", "make a 1 1 1", "make 1 1 1", "make a b 1",
    "make a 1 b", "make a 01 1", "make a 1 00", "drop", "drop a b", "drop 1", "mark", "mark 1", "mark a a", "back",
    "back 1", "back a a", "seen a", "seen a b", "seen 1 1", "seen a 1 1", "seen a -1", "wear a", "wear a b", "wear 1 a",
    "runs", "runs 1", "runs a 1", "picture a", "picture a b", "picture a 1 1", "picture 1 1", "film a", "film a b",
    "film a 0 0", "part a", "part a 1", "part 1 a", "part a b c", "do", "do a", "do a nothing", "do a wait 1",
    "do a lay 0 1 sun red", "do a lay 0 1 sun red 1 1", "do a lay 0 1 sun Red 1", "do a lay 0 1 1 red 1",
    "do a lay a 1 sun red 1", "do a lay 0 01 sun red 1", "do a lay -1 1 sun red 1", "do 1 lay 0 1 sun red 1",
    "do a  lay 0 1 sun red 1", "do a wash 0 1 sun", "do a wash 0 1 1 1", "do a warm 0 1 sun sun", "do a scrape 0",
    "do a scrape 0 1 1", "do a scrape a 1", "do a rub 0 1", "do a rub 0 1 a", "do a cut 0", "do a cut 0 1 2",
    "do a insert 0", "do a insert a 0", "do a insert 0 1", "do a insert 0 a 0", "do a press 0 1 a",
    "do a press 0 1 0 a",
    "do a press 0 1 a 0 0", "do a graft 0 1 a", "do a graft 0 1 1 1", "do a graft 0 a 1 1", "DO a cut 0 1", "say text",
    "do A cut 0 1", "do a Cut 0 1", "do lay 0 1 sun red 1", "book sun 1\n", "drop a\n", "wait 1\nwait 1",
]
