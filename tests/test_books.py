import unittest

from fadeleaf import books
from fadeleaf.books import Book
from fadeleaf.leaves import Leaf
from fadeleaf.palettes import Palette
from bookmodel import BookModel, drawn_deed
from leaftools import MOST, PALETTE, Refusing, both, made, told
from model import Draws
from things import BIG, INKS, UNLIKE, Agreeing, Stubborn, no_amounts, no_names, no_numbers, no_wears, others

METHODS = (
    "palette", "ticks", "names", "make", "put", "drop", "do", "wait", "mark", "back", "leaf", "marked", "copied",
    "__eq__", "__len__",
)
NAMES = ["a", "lay", "zzz"]


def made_book(*calls, inks=INKS):
    """A book behind calls, each a tuple of a method's name and its arguments."""
    book = Book(Palette(inks))
    for word, *items in calls:
        getattr(book, word)(*items)
    return book


def book_told(book):
    """All that a book tells, as one value, in the form of a model's."""
    names = book.names()
    return (book.palette().inks(), book.ticks(), names, len(book), book.marked(),
            [book.leaf(name).runs() for name in names])


class Books(Refusing):
    def all_of(self, thing):
        return book_told(thing) if isinstance(thing, Book) else super().all_of(thing)


class Leaves(Books):
    def test_at_first(self):
        book = Book(PALETTE)
        self.assertEqual(book_told(book), (INKS, 0, [], 0, [], []))
        self.assertEqual(book.palette(), PALETTE)

    def test_made(self):
        book = Book(PALETTE)
        self.assertIsNone(book.make("b", 4))
        self.assertIsNone(book.make("a", MOST, wear=0))
        self.assertIsNone(book.make("abcdefgh", 0, wear=6))
        self.assertEqual((book.names(), len(book)), (["a", "abcdefgh", "b"], 3))
        self.assertEqual(book.leaf("b"), Leaf(PALETTE, 4))
        self.assertEqual(book.leaf("a"), Leaf(PALETTE, MOST, wear=0))
        self.assertEqual(book.leaf("abcdefgh"), Leaf(PALETTE, 0))

    def test_made_in_the_place_of_an_elder_one(self):
        book = made_book(("make", "a", 4), ("do", "a", ("lay", 0, 4, "sun", "red", 1)), ("make", "a", 2))
        self.assertEqual((book.leaf("a"), len(book)), (Leaf(PALETTE, 2), 1))

    def test_put(self):
        leaf = made(4, ("lay", 1, 3, "sun", "red", 4))
        before = told(leaf)
        book = made_book(("make", "a", 7), ("put", "b", leaf), ("put", "a", leaf))
        self.assertEqual([told(book.leaf(name)) for name in book.names()], [before] * 2)
        book.do("a", ("cut", 0, 2))
        self.assertEqual((told(leaf), told(book.leaf("b"))), (before, before))
        leaf.wash(0, 4, "sun", 4)
        self.assertEqual(told(book.leaf("b")), before)
        self.assertIsNone(book.put("c", book.leaf("b")))

    def test_told_a_copy(self):
        book = made_book(("make", "a", 4))
        leaf = book.leaf("a")
        self.assertIs(type(leaf), Leaf)
        leaf.lay(0, 4, "sun", "red", 1)
        leaf.cut(0, 2)
        self.assertEqual(book.leaf("a"), Leaf(PALETTE, 4))
        leaf = book.leaf("a")
        book.do("a", ("lay", 0, 4, "sun", "red", 1))
        book.wait(1)
        self.assertEqual(leaf, Leaf(PALETTE, 4))

    def test_dropped(self):
        book = made_book(("make", "a", 4), ("make", "b", 3))
        self.assertIsNone(book.drop("a"))
        self.assertEqual((book.names(), len(book)), (["b"], 1))
        self.refused("NoName", lambda: book.drop("a"), book, who=["a"])
        self.refused("NoName", lambda: book.leaf("a"), book, who=["a"])

    def test_no_name(self):
        book = made_book(("make", "a", 4), ("mark", "m"))
        leaf = Leaf(PALETTE, 1)
        for thing in no_names():
            for call in (
                lambda: book.make(thing, -1, wear=7), lambda: book.put(thing, Leaf(Palette([("a", 0)]), 1)),
                lambda: book.put(thing, leaf), lambda: book.mark(thing),
            ):
                self.refused("NoName", call, book, who=[thing])
        for thing in no_names() + ["b", "m", "aa"]:
            for call in (lambda: book.drop(thing), lambda: book.leaf(thing), lambda: book.do(thing, None)):
                self.refused("NoName", call, book, who=[thing])
        for thing in no_names() + ["a", "mm"]:
            self.refused("NoName", lambda: book.back(thing), book, who=[thing])

    def test_no_places_no_wear(self):
        book = made_book(("make", "a", 4))
        for name in ("a", "b"):
            for thing in [MOST + 1, *no_numbers(MOST)]:
                self.refused("NoPlaces", lambda: book.make(name, thing, wear=7), book)
            for thing in no_wears():
                self.refused("NoWear", lambda: book.make(name, 3, wear=thing), book)

    def test_unlike(self):
        book = made_book(("make", "a", 4))
        for inks in UNLIKE:
            for name in ("a", "b"):
                self.refused("Unlike", lambda: book.put(name, Leaf(Palette(inks), 0)), book)

    def test_told_lists_are_the_askers_own(self):
        book = made_book(("make", "a", 4), ("make", "b", 4), ("mark", "m"))
        before = book_told(book)
        for ask in (book.names, book.marked):
            ask().clear()
            ask().append("z")
            self.assertIsNot(ask(), ask())
        book.palette().inks().clear()
        self.assertEqual(book_told(book), before)

    def test_wear_by_its_name_alone(self):
        with self.assertRaises(TypeError):
            Book(PALETTE).make("a", 1, 3)


class Deeds(Books):
    def book(self, *calls, wear=3):
        """A book with a leaf a of six places, and b of three."""
        one = made(6, ("lay", 1, 4, "sun", "red", 4), ("lay", 3, 6, "sky", "a", 7), wear=wear)
        other = made(3, ("lay", 0, 1, "sun", "b", 8), ("lay", 2, 3, "sky", "c", 1), wear=1)
        return made_book(("put", "a", one), ("put", "b", other), *calls)

    def test_each_as_a_leafs_own(self):
        for deed in (
            ("lay", 1, 4, "sun", "x", 2), ("wash", 0, 6, "sun", 3), ("warm", 2, 3, "sky", 9), ("scrape", 0, 2),
            ("rub", 3, 4, 2), ("cut", 1, 3), ("lay", 0, 0, "sun", "x", 1), ("cut", 6, 6),
        ):
            book = self.book()
            leaf, other = book.leaf("a"), book.leaf("b")
            self.assertIsNone(book.do("a", deed))
            getattr(leaf, deed[0])(*deed[1:])
            self.assertEqual((told(book.leaf("a")), book.leaf("b")), (told(leaf), other))

    def test_with_another_leaf(self):
        book = self.book()
        book.do("a", ("insert", 2, "b"))
        self.assertEqual([one and one[1] for one in self.seen(book, "a")],
                         [None, "red", "b", None, "c", "red", "a", "a", "a"])
        book = self.book()
        book.do("a", ("press", 0, 2, "b", 0))
        self.assertEqual(self.seen(book, "a")[:3], [("sun", "b", 4), ("sun", "red", 4), ("sun", "red", 4)])
        book.do("a", ("graft", 4, 6, "b", 1))
        self.assertEqual(book.leaf("a").place(5).rows(), ((), (("a", 7), ("c", 1))))
        self.assertEqual([book.leaf("a").place(at).wear() for at in range(6)], [3, 3, 3, 3, 1, 1])
        self.assertEqual(self.seen(book, "b"), [("sun", "b", 8), None, ("sky", "c", 1)])

    def seen(self, book, name):
        leaf = book.leaf(name)
        return [leaf.place(at).seen() for at in range(leaf.many())]

    def test_with_itself(self):
        book = self.book()
        before = self.seen(book, "b")
        book.do("b", ("insert", 1, "b"))
        self.assertEqual(self.seen(book, "b"), before[:1] + before + before[1:])
        book = self.book()
        book.do("b", ("press", 1, 3, "b", 0))
        self.assertEqual(self.seen(book, "b"), [("sun", "b", 8), ("sun", "b", 4), ("sky", "c", 1)])
        book = self.book()
        book.do("b", ("graft", 0, 2, "b", 1))
        self.assertEqual([book.leaf("b").place(at).rows() for at in range(3)],
                         [((("b", 8),), ()), ((), (("c", 1),)), ((), (("c", 1),))])

    def test_names_that_are_words(self):
        book = made_book(*[("make", name, 2) for name in ("insert", "lay", "press", "name", "do")])
        book.do("insert", ("insert", 1, "insert"))
        book.do("lay", ("lay", 0, 1, "sun", "lay", 6))
        book.do("press", ("press", 1, 2, "lay", 0))
        self.assertEqual(book.leaf("insert").many(), 4)
        self.assertEqual(book.leaf("press").picture(), [(1, None), (1, ("sun", "lay", 3))])

    def test_no_name_first(self):
        book = self.book()
        for name in ("c", "", None, Stubborn()):
            for deed in (None, ("cut",), ("insert", 0, "d"), ("lay", -1, 0, "moon", "", 0), ("cut", 0, 1)):
                self.refused("NoName", lambda: book.do(name, deed), book, who=[name])

    def test_no_deed(self):
        book = self.book(wear=0)
        right = [
            ("lay", 0, 1, "sun", "x", 1), ("wash", 0, 1, "sun", 1), ("warm", 0, 1, "sun", 1), ("scrape", 0, 1),
            ("rub", 0, 1, 1), ("cut", 0, 1), ("insert", 0, "b"), ("press", 0, 1, "b", 0), ("graft", 0, 1, "b", 0),
        ]
        wrong = [list(deed) for deed in right] + [deed[:-1] for deed in right] + [deed + (1,) for deed in right]
        words = ("", "Lay", "lays", "make", "wait", None, True, Agreeing(), ("lay",))
        wrong += [(word, *right[0][1:]) for word in words]
        wrong += [("wait", 1), ("wait",), ("lay", "sun", "x", 1), ("scrape",), ("rub", 1), ("cut", "c"), ("press", "c")]
        wrong += [("insert", 0, "c", 0), ("insert", "c"), ("press", 0, 1, "c"), ("graft", 0, 1, "c", 0, 0), ("insert",)]
        wrong += others() + [True, False, 0, 1, "lay", "cut", {"lay": 1}, (Stubborn(), 0, 1), ((("cut",),), 0, 1)]
        for thing in wrong:
            self.refused("NoDeed", lambda: book.do("a", thing), book)

    def test_no_name_of_the_other_one(self):
        book = self.book()
        for thing in no_names() + ["c", "aa"]:
            for deed in (("insert", -1, thing), ("press", 5, 1, thing, -1), ("graft", None, 99, thing, None),
                         ("insert", 0, thing), ("press", 0, 1, thing, 0), ("graft", 0, 1, thing, 0)):
                self.refused("NoName", lambda: book.do("a", deed), book, who=[thing])

    def test_then_as_a_leaf_refuses(self):
        book = self.book(wear=0)
        for thing in no_numbers(6):
            for deed in (
                ("lay", thing, 6, "moon", "", 0), ("wash", 0, thing, "moon", 0), ("warm", thing, thing, "moon", 0),
                ("scrape", thing, 6), ("rub", 0, thing, 0), ("cut", thing, 6), ("cut", 0, thing),
                ("insert", thing, "b"),
                ("press", thing, 6, "a", 0), ("graft", 0, thing, "a", 0), ("press", 0, 1, "a", thing),
                ("graft", 0, 1, "a", thing),
            ):
                self.refused("NoPlaces", lambda: book.do("a", deed), book)
        for deed, error, who in (
            (("lay", 0, 0, "moon", "", 0), "NoInk", "moon"), (("lay", 0, 0, "sun", "", 0), "NoTag", ""),
            (("lay", 0, 0, "sun", "x", 0), "NoAmount", 0), (("wash", 0, 0, "x", 0), "NoInk", "x"),
            (("wash", 0, 0, "sun", True), "NoAmount", True), (("warm", 0, 0, 3, 1), "NoInk", 3),
            (("warm", 0, 0, "sky", "1"), "NoAmount", "1"), (("rub", 0, 6, 0), "NoAmount", 0),
        ):
            self.refused(error, lambda: book.do("a", deed), book, who=[who])
        for deed in (("scrape", 0, 6), ("rub", 0, 6, 1)):
            self.refused("Worn", lambda: book.do("a", deed), book, at=[1])
        for deed in (("press", 0, 4, "b", 0), ("graft", 0, 1, "b", 3), ("press", 0, 3, "b", 1)):
            self.refused("NoPlaces", lambda: book.do("a", deed), book)
        book.make("most", MOST)
        for name, other in (("most", "b"), ("b", "most"), ("most", "most")):
            self.refused("NoPlaces", lambda: book.do(name, ("insert", 0, other)), book)

    def test_waited(self):
        book = self.book()
        self.assertIsNone(book.wait(2))
        self.assertEqual(self.seen(book, "b"), [("sun", "b", 4), None, ("sky", "c", 1)])
        self.assertEqual(self.seen(book, "a")[1:4], [None, None, ("sky", "a", 7)])
        self.assertEqual(book.ticks(), 2)
        book.wait(BIG)
        book.wait(10 ** 299)
        self.assertEqual((book.ticks(), self.seen(book, "b")[0]), (2 + BIG + 10 ** 299, None))
        self.assertEqual(made_book(("wait", 7)).ticks(), 7)

    def test_waited_for_has_no_bearing_on_later_leaves(self):
        book = made_book(("wait", 5), ("put", "a", made(1, ("lay", 0, 1, "sun", "x", 4))))
        self.assertEqual(self.seen(book, "a"), [("sun", "x", 4)])

    def test_no_amount(self):
        for book in (self.book(), Book(PALETTE)):
            for thing in no_amounts():
                self.refused("NoAmount", lambda: book.wait(thing), book, who=[thing])


class Marks(Books):
    def test_back(self):
        book = made_book(("make", "a", 4), ("wait", 2), ("mark", "m"))
        before = book_told(book)
        for calls in (
            [("wait", 3)], [("drop", "a")], [("do", "a", ("lay", 0, 4, "sun", "x", 9))], [("make", "b", 1)],
            [("make", "a", 1)], [("put", "a", Leaf(PALETTE, 9))], [("do", "a", ("cut", 0, 4)), ("wait", 1)],
        ):
            for word, *items in calls:
                getattr(book, word)(*items)
            self.assertNotEqual(book_told(book), before)
            self.assertIsNone(book.back("m"))
            self.assertEqual(book_told(book), before)

    def test_back_twice(self):
        book = made_book(("make", "a", 4), ("mark", "m"))
        before = book_told(book)
        for _ in range(3):
            book.back("m")
            self.assertEqual(book_told(book), before)
            book.do("a", ("lay", 0, 4, "sun", "x", 9))
            book.wait(1)

    def test_marked_twice_by_one_name(self):
        book = made_book(("make", "a", 4), ("mark", "m"), ("make", "b", 1))
        self.assertIsNone(book.mark("m"))
        before = book_told(book)
        book.drop("a")
        book.back("m")
        self.assertEqual(book_told(book), before)

    def test_marks_are_kept_whatever_comes(self):
        book = made_book(("mark", "one"), ("make", "a", 4), ("mark", "two"), ("wait", 1), ("mark", "three"))
        book.back("one")
        self.assertEqual((book.names(), book.ticks(), book.marked()), ([], 0, ["one", "three", "two"]))
        book.back("three")
        self.assertEqual((book.names(), book.ticks(), book.marked()), (["a"], 1, ["one", "three", "two"]))
        book.drop("a")
        book.back("two")
        self.assertEqual((book.names(), book.ticks()), (["a"], 0))

    def test_marks_and_leaves_may_have_one_name(self):
        book = made_book(("make", "a", 4), ("mark", "a"), ("drop", "a"), ("back", "a"))
        self.assertEqual((book.names(), book.marked()), (["a"], ["a"]))

    def test_a_mark_without_leaves(self):
        book = made_book(("mark", "m"), ("make", "a", 4), ("wait", 1), ("back", "m"))
        self.assertEqual(book_told(book), (INKS, 0, [], 0, ["m"], []))


class ComparingAndCopies(Books):
    CALLS = [("make", "a", 4), ("do", "a", ("lay", 1, 2, "sun", "x", 9)), ("make", "b", 0), ("wait", 2)]

    def test_equal(self):
        self.assertIs(made_book(*self.CALLS) == made_book(*self.CALLS), True)
        self.assertIs(made_book(*self.CALLS) != made_book(*self.CALLS), False)
        turned = [self.CALLS[2], self.CALLS[0], self.CALLS[1], self.CALLS[3]]
        self.assertIs(made_book(*turned) == made_book(*self.CALLS), True)
        self.assertIs(Book(PALETTE) == Book(Palette(list(INKS))), True)

    def test_marks_have_no_bearing(self):
        self.assertIs(made_book(*self.CALLS) == made_book(("mark", "m"), *self.CALLS), True)
        self.assertIs(made_book(*self.CALLS) == made_book(*self.CALLS, ("mark", "m")), True)

    def test_unequal(self):
        book = made_book(*self.CALLS)
        for calls in (
            [("wait", 1)], [("drop", "b")], [("make", "c", 0)], [("do", "a", ("cut", 3, 4))], [("make", "b", 1)],
            [("drop", "b"), ("make", "c", 0)], [("do", "a", ("lay", 0, 1, "sky", "x", 1))],
        ):
            other = made_book(*self.CALLS, *calls)
            self.assertIs(book == other, False)
            self.assertIs(other != book, True)
        for inks in UNLIKE:
            self.assertIs(Book(Palette(inks)) == Book(PALETTE), False)

    def test_ticks_by_themselves(self):
        one, other = made_book(("make", "a", 2)), made_book(("make", "a", 2), ("wait", 1))
        self.assertIs(one == other, False)
        self.assertEqual(one.leaf("a"), other.leaf("a"))

    def test_anything_else(self):
        for book in (made_book(*self.CALLS), Book(PALETTE)):
            for thing in [PALETTE, Leaf(PALETTE, 0), book_told(book), 0, 2, True, False, None, "", *others()]:
                self.assertIs(book == thing, False)
                self.assertIs(book != thing, True)

    def test_a_copy(self):
        calls = [
            ("wait", 1), ("drop", "a"), ("make", "c", 1), ("do", "a", ("cut", 0, 2)), ("mark", "m"), ("mark", "other"),
            ("do", "a", ("lay", 0, 4, "sun", "y", 9)), ("put", "b", Leaf(PALETTE, 5)), ("make", "a", 2),
        ]
        for word, *items in calls:
            for first in (0, 1):
                book = made_book(*self.CALLS, ("mark", "m"))
                pair = [book, book.copied()]
                before = book_told(book)
                self.assertEqual((type(pair[1]), book_told(pair[1])), (Book, before))
                getattr(pair[first], word)(*items)
                self.assertEqual(book_told(pair[1 - first]), before)
                pair[first].wait(3)
                pair[1 - first].back("m")
                self.assertEqual(book_told(pair[1 - first]), before)

    def test_a_copy_is_marked_with_the_same(self):
        book = made_book(("make", "a", 4), ("mark", "m"), ("drop", "a"), ("wait", 9))
        other = book.copied()
        other.back("m")
        self.assertEqual((other.names(), other.ticks(), book.names(), book.ticks()), (["a"], 0, [], 9))


class PlaceByPlace(Books):
    """Whatever comes, a book tells what the places of its leaves, with all their layers, tell."""

    def step(self, draws, model, book):
        name, other = draws.pick(NAMES), draws.pick(NAMES)
        lot = draws.below(30)
        if lot < 20:
            many = len(model.leaves[name].places) if name in model.leaves else 6
            deed = drawn_deed(draws, NAMES, model.inks, many + 1)
            if many > 30 and deed[0] == "insert":
                deed = ("cut", 0, 20)
            if any(len(place.layers) > 25 for leaf in model.leaves.values() for place in leaf.places):
                deed = ("wait",) if deed[0] == "graft" else deed
            both(lambda: model.do(name, deed), lambda: book.do(name, deed))
        elif lot < 23:
            many, wear = 4 + draws.below(5), draws.below(8)
            both(lambda: model.make(name, many, wear), lambda: book.make(name, many, wear=wear))
        elif lot == 23:
            both(lambda: model.drop(name), lambda: book.drop(name))
        elif lot == 24:
            ticks = draws.below(3)
            both(lambda: model.wait(ticks), lambda: book.wait(ticks))
        elif lot == 25 and other in model.leaves:
            model.leaves[name] = model.leaves[other].copied()
            book.put(name, book.leaf(other))
        elif lot < 28:
            both(lambda: model.mark(name), lambda: book.mark(name))
        else:
            both(lambda: model.back(name), lambda: book.back(name))

    def test_drawn(self):
        for seed in range(60):
            draws = Draws(seed)
            inks = draws.inks()
            model, book = BookModel(inks), Book(Palette(inks))
            for name in NAMES:
                model.make(name, 6, 3)
                book.make(name, 6)
            for _ in range(60):
                self.step(draws, model, book)
                self.assertEqual(book_told(book), model.told())

    def test_copies_drawn(self):
        for seed in range(15):
            draws = Draws(3000 + seed)
            inks = draws.inks()
            pair = (BookModel(inks), Book(Palette(inks)))
            for _ in range(25):
                self.step(draws, *pair)
            copies = tuple(one.copied() for one in pair)
            before = book_told(pair[1])
            for _ in range(25):
                self.step(draws, *copies)
                self.assertEqual(book_told(copies[1]), copies[0].told())
            self.assertEqual(book_told(pair[1]), before)


class Calls(unittest.TestCase):
    def test_the_interface_is_defined_in_the_file(self):
        self.assertEqual(Book.__module__, books.__name__)
        for name in METHODS:
            self.assertIn(name, vars(Book))

    def test_by_name(self):
        book = Book(palette=PALETTE)
        book.make(wear=2, many=4, name="a")
        book.put(leaf=Leaf(PALETTE, 1), name="b")
        book.mark(name="m")
        book.drop(name="b")
        book.do(deed=("lay", 0, 2, "sun", "x", 9), name="a")
        book.wait(ticks=1)
        self.assertEqual(book.leaf(name="a").picture(), [(2, ("sun", "x", 7)), (2, None)])
        book.back(name="m")
        self.assertEqual((book.names(), book.ticks()), (["a", "b"], 0))

    def test_the_handed_deed_stays(self):
        book = made_book(("make", "a", 4))
        deed = ("lay", 0, 2, "sun", "x", 9)
        book.do("a", deed)
        self.assertEqual(deed, ("lay", 0, 2, "sun", "x", 9))


if __name__ == "__main__":
    unittest.main()
