import unittest

from fadeleaf import booktexts
from fadeleaf.books import Book
from fadeleaf.booktexts import book_text, read_book
from fadeleaf.errors import NoText
from fadeleaf.leaves import Leaf
from fadeleaf.palettes import Palette
from bookmodel import BookModel, drawn_deed
from leafmodel import Halt, could_be_book, first_wrong, is_book, text
from leaftools import MOST, PALETTE, caught_of, leaf_of, made, spoilt
from model import Draws
from things import BIG, INKS, others

HEAD = "ink sun 2\nink sky 0\nticks 0\n"
EIGHT = "".join("ink {} 1\n".format(name) for name in "abcdefgh")


def all_of(book):
    """All that a book tells, as one value."""
    names = book.names()
    return (book.palette().inks(), book.ticks(), names, book.marked(), [book.leaf(name).runs() for name in names])


def drawn_book(draws, names=("a", "b", "sun", "zz")):
    """A model of a book and the book, behind drawn deeds."""
    inks = draws.inks()
    model, book = BookModel(inks), Book(Palette(inks))
    for _ in range(draws.below(4)):
        model.make(draws.pick(names), draws.below(6), draws.below(7))
    for _ in range(draws.below(40)):
        try:
            model.do(draws.pick(names), drawn_deed(draws, names, inks, 6))
        except Halt:
            pass
        if any(len(leaf.places) > 12 for leaf in model.leaves.values()):
            break
    if draws.below(2) == 0:
        model.wait(1 + draws.below(2))
        book.wait(model.ticks)
    for name, leaf in model.leaves.items():
        book.put(name, leaf_of(leaf))
    return model, book


class Written(unittest.TestCase):
    def check(self, book, *rows):
        before = all_of(book)
        written = book_text(book)
        self.assertEqual(written, text(rows))
        again = read_book(written)
        self.assertIs(type(again), Book)
        self.assertEqual((again == book, all_of(again)[:3], all_of(again)[4]), (True, before[:3], before[4]))
        self.assertEqual(again.marked(), [])
        self.assertEqual(all_of(book), before)

    def test_without_leaves(self):
        self.check(Book(PALETTE), "ink sun 2", "ink sky 0", "ticks 0")
        self.check(Book(Palette([("a", BIG)])), "ink a " + str(BIG), "ticks 0")

    def test_ticks(self):
        book = Book(PALETTE)
        book.wait(7)
        self.check(book, "ink sun 2", "ink sky 0", "ticks 7")
        book.wait(BIG)
        self.check(book, "ink sun 2", "ink sky 0", "ticks " + str(BIG + 7))

    def test_inks_in_their_order(self):
        inks = [(name, at) for at, name in enumerate(["zz", "b", "a", "c", "sun", "abcdefgh", "ink", "ticks"])]
        self.check(Book(Palette(inks)), *["ink {} {}".format(*ink) for ink in inks], "ticks 0")

    def test_leaves_by_their_sorted_names(self):
        book = Book(PALETTE)
        for name in ("b", "ab", "a", "ticks", "run", "abc"):
            book.make(name, 0)
        book.make("b", 2, wear=1)
        book.do("b", ("lay", 0, 1, "sky", "x", 9))
        self.check(book, "ink sun 2", "ink sky 0", "ticks 0", "leaf a", "leaf ab", "leaf abc", "leaf b", "  run 1 1",
                   "    sky x 9", "  run 1 1", "leaf run", "leaf ticks")

    def test_marks_have_no_bearing(self):
        book = Book(PALETTE)
        book.make("a", 1)
        book.mark("m")
        self.check(book, "ink sun 2", "ink sky 0", "ticks 0", "leaf a", "  run 1 3")

    def test_drawn(self):
        for seed in range(60):
            model, book = drawn_book(Draws(seed))
            self.check(book, *model.rows())


class Read(unittest.TestCase):
    def refused(self, given, at):
        caught = caught_of(NoText, lambda: read_book(given))
        self.assertEqual(caught.at, at, given)

    def read(self, given):
        book = read_book(given)
        self.assertEqual(book_text(book), given)
        return book

    def test_read(self):
        self.assertEqual(self.read(HEAD), Book(PALETTE))
        book = self.read(HEAD + "leaf a\nleaf b\n  run 5 3\n    sun red 4 sky 7\nleaf c\n  run 1 0\n")
        self.assertEqual((book.palette().inks(), book.names()), (INKS, ["a", "b", "c"]))
        expected = made(5, ("lay", 0, 5, "sun", "red", 4), ("lay", 0, 5, "sun", "sky", 7))
        self.assertEqual([book.leaf(name) for name in "abc"], [Leaf(PALETTE, 0), expected, Leaf(PALETTE, 1, wear=0)])
        self.read(EIGHT + "ticks 0\n")

    def test_ticks_have_no_bearing_on_leaves(self):
        book = self.read("ink sun 2\nticks 9\nleaf a\n  run 1 3\n    sun red 4\n")
        self.assertEqual((book.ticks(), book.leaf("a").picture()), (9, [(1, ("sun", "red", 4))]))

    def test_what_is_read_lives_on(self):
        book = self.read(HEAD + "leaf a\n  run 5 3\n    sun red 4\n")
        book.do("a", ("cut", 1, 5))
        book.wait(1)
        self.assertEqual(book_text(book), "ink sun 2\nink sky 0\nticks 1\nleaf a\n  run 1 3\n    sun red 2\n")

    def test_no_text(self):
        for thing in [*others(), True, False, 0, 1, HEAD.encode(), [HEAD], (HEAD,), {HEAD: 1}]:
            self.refused(thing, None)

    def test_more_must_come(self):
        self.refused("", 1)
        self.refused("ink sun 2\n", 2)
        self.refused("ink sun 2\nink sky 0\n", 3)
        self.refused(EIGHT, 9)
        self.refused(HEAD + "leaf a\n  run 5 3\n  run 5 3\n", 7)
        self.refused(HEAD + "leaf a\n  run 5 3\n  run 5 3\nleaf b\n", 7)

    def test_a_last_row_without_its_line_feed(self):
        self.refused("ink sun 2", 1)
        self.refused("ink sun 2\nticks 0", 2)
        self.refused(HEAD[:-1], 3)
        self.refused(HEAD + "leaf a", 4)
        self.refused(HEAD + "leaf a\n  run 5 3", 5)
        self.refused(EIGHT + "ink i 1", 9)

    def test_rows_of_inks(self):
        for row in (
            "", " ", "ink", "ink ", "ink sun", "ink sun ", "ink sun 2 ", "ink sun 2 3", " ink sun 2", "  ink sun 2",
            "ink  sun 2", "ink sun  2", "Ink sun 2", "ink Sun 2", "ink sun -2", "ink sun 02", "ink sun 00", "ink sun a",
            "ink 2 sun", "ink abcdefghi 2", "ink  2", "ink s-n 2", "inks sun 2", "ink sun 2_0", "ink sun +2",
            "leaf a", "run 5 3", "  run 5 3", "    sun red 4", "ink ink sun 2",
        ):
            self.refused(row + "\n", 1)
            self.refused(row + "\nticks 0\n", 1)
            self.refused("ink sea 2\n" + row + "\nticks 0\n", 2)
        self.refused("ticks 0\n", 1)
        self.refused("ticks 0\nink sun 2\n", 1)
        self.refused("ink sun 2\nink sun 2\nticks 0\n", 2)
        self.refused("ink sun 2\nink sky 1\nink sun 3\n", 3)
        self.refused(EIGHT + "ink i 1\nticks 0\n", 9)
        self.refused("ink sun 2\nticks 0\nink sky 1\n", 3)

    def test_rows_of_ticks(self):
        for row in (
            "ticks", "ticks ", "ticks 0 ", "ticks 0 0", "ticks 00", "ticks 07", "ticks -1", "ticks a", " ticks 0",
            "  ticks 0", "Ticks 0", "tick 0", "ticks  0", "ticks +0", "ticks 1_0", "leaf a", "leaf 0", "ticks",
        ):
            self.refused("ink sun 2\n" + row + "\n", 2)
        self.refused("ink sun 2\nticks 0\nticks 0\n", 3)
        self.refused("ink sun 2\nticks 0\nleaf a\nticks 0\n", 4)
        self.read("ink sun 2\nticks 10\n")

    def test_rows_of_leaves(self):
        for row in (
            "leaf", "leaf ", "leaf b ", "leaf b c", " leaf b", "  leaf b", "leaf  b", "Leaf b", "leaf B", "leaf 1",
            "leaf bcdefghij", "leafs b", "leaf b1", "", " ", "  ", "run 5 3", "    moon red 4", "ink a 1",
        ):
            self.refused(HEAD + row + "\n", 4)
            self.refused(HEAD + "leaf a\n" + row + "\n", 5)
            self.refused(HEAD + "leaf a\n  run 5 3\n" + row + "\nleaf b\n", 6)
        self.refused(HEAD + "  run 5 3\n", 4)
        self.refused(HEAD + "leaf a\nleaf a\n", 5)
        self.refused(HEAD + "leaf b\nleaf a\n", 5)
        self.refused(HEAD + "leaf ab\nleaf a\n", 5)
        self.refused(HEAD + "leaf a\n  run 1 3\nleaf c\nleaf b\n", 7)
        self.read(HEAD + "leaf a\nleaf ab\nleaf b\n")

    def test_rows_of_a_leafs_text(self):
        head = HEAD + "leaf a\n  run 5 3\n"
        for row in (
            "run 5 4", " run 5 4", "   run 5 4", "    run 5 4", "  run 05 4", "  run 0 4", "  run 5 7", "  run 5",
            "  sun red 4", "   sun red 4", "     sun red 4", "    sun red 04", "    sun red 0", "    moon red 4",
            "    sun red", "    sun red 2 red 1", "    sun a 1 b 2 c 3 d 4 e 5", "      sun red 4", "",
            "  run {} 4".format(MOST - 4),
        ):
            self.refused(head + row + "\n", 6)
        self.refused(head + "    sky a 1\n    sun a 1\n", 7)
        self.refused(head + "    sky a 1\n  run 5 3\n    sky a 1\n", 8)
        self.read(head + "  run {} 4\nleaf b\n  run {} 3\n".format(MOST - 5, MOST))

    def test_spoilt_by_a_stroke(self):
        counts = {True: 0, False: 0}
        for seed in range(500):
            draws = Draws(9000 + seed)
            model, _ = drawn_book(draws)
            given = spoilt(draws, text(model.rows()))
            if draws.below(4) == 0:
                given = spoilt(draws, given)
            *rows, rest = given.split("\n")
            at = first_wrong(rows, rest, is_book, could_be_book)
            counts[at is None] += 1
            if at is None:
                self.read(given)
            else:
                self.refused(given, at)
        self.assertGreater(min(counts.values()), 60)


class Calls(unittest.TestCase):
    def test_the_interface_is_defined_in_the_file(self):
        for thing in (book_text, read_book):
            self.assertEqual(thing.__module__, booktexts.__name__)

    def test_by_name(self):
        book = Book(PALETTE)
        self.assertEqual(read_book(text=book_text(book=book)), book)


if __name__ == "__main__":
    unittest.main()
