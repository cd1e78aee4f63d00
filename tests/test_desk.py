import unittest

from fadeleaf import desk as desk_file
from fadeleaf import errors
from fadeleaf.books import Book
from fadeleaf.booktexts import book_text, read_book
from fadeleaf.deeds import is_deed
from fadeleaf.desk import Desk
from fadeleaf.errors import Halted
from fadeleaf.leaftexts import leaf_text, read_leaf
from fadeleaf.palettes import Palette
from bookmodel import NO_ROWS, DeskModel, drawn_row
from leafmodel import Halt
from leaftools import MOST, PALETTE, Refusing, caught_of
from model import Draws
from things import BIG, INKS, others

METHODS = ("say", "say_all", "journal", "busy", "book")
BOOK = "book sun 2 sky 0"
NAMES = ["a", "do", "text"]


def made(*rows):
    """A desk that was told rows, one by one."""
    desk = Desk()
    for row in rows:
        desk.say(row)
    return desk


def deed_of(words):
    """The deed of which these are the words."""
    return tuple(int(word) if word.isdigit() else word for word in words.split(" "))


class Desks(Refusing):
    def all_of(self, thing):
        """All that a desk tells but its count of answers, and the text of a book."""
        if isinstance(thing, Book):
            return book_text(thing), thing.marked()
        if not isinstance(thing, Desk):
            return super().all_of(thing)
        try:
            book = self.all_of(thing.book())
        except errors.NoBook:
            book = None
        return book, thing.journal(), thing.busy()

    def answers(self, desk, *pairs):
        for row, answer in pairs:
            told = desk.say(row)
            self.assertEqual((row, told), (row, answer))
            self.assertIs(type(told), str)


class Rows(Desks):
    def test_books(self):
        desk = Desk()
        self.answers(desk, ("book sun 2", "ok"), ("text", "ink sun 2\nticks 0\n"), ("make a 1 3", "ok"),
                     (BOOK, "ok"), ("text", "ink sun 2\nink sky 0\nticks 0\n"))
        eight = " ".join("{} {}".format(ink, at) for at, ink in enumerate("hgfedcba"))
        self.answers(desk, ("book " + eight, "ok"))
        self.assertEqual(desk.book().palette().inks(), [(ink, at) for at, ink in enumerate("hgfedcba")])
        self.answers(desk, ("book book {}".format(BIG), "ok"), ("text", "ink book {}\nticks 0\n".format(BIG)))

    def test_rows_that_are_answered_ok(self):
        desk = made(BOOK)
        self.answers(desk, ("make a 5 2", "ok"), ("mark m", "ok"), ("wait 3", "ok"), ("drop a", "ok"), ("back m", "ok"),
                     ("show a", "run 5 2\n"), ("text", "ink sun 2\nink sky 0\nticks 0\nleaf a\n  run 5 2\n"),
                     ("make a {} 0".format(MOST), "ok"), ("show a", "run {} 0\n".format(MOST)), ("make b 0 6", "ok"),
                     ("show b", ""), ("runs b", "0"), ("picture b 0", ""), ("wait {}".format(BIG), "ok"))
        self.assertEqual((desk.book().ticks(), desk.book().names(), desk.book().marked()), (BIG, ["a", "b"], ["m"]))

    def test_deeds(self):
        desk = made(BOOK, "make a 6 2", "make b 2 3")
        self.answers(
            desk, ("do a lay 0 4 sun red 9", "ok"), ("do a lay 2 6 sky blue 5", "ok"), ("do a wash 0 1 sun 4", "ok"),
            ("do a warm 1 2 sun 1", "ok"), ("do a rub 3 4 8", "ok"), ("do a scrape 5 6", "ok"),
            ("show a", "run 1 2\n  sun red 5\nrun 1 2\n  sun red 10\nrun 1 2\n  sun red 9\n  sky blue 5\n"
             "run 1 1\n  sun red 1\n  sky blue 5\nrun 1 2\n  sky blue 5\nrun 1 1\n"),
            ("do a cut 3 6", "ok"), ("do a insert 1 b", "ok"), ("do a press 1 3 a 2", "ok"),
            ("do b graft 0 2 a 3", "ok"),
            ("show a", "run 1 2\n  sun red 5\nrun 1 3\nrun 1 3\n  sun red 5\nrun 1 2\n  sun red 10\n"
             "run 1 2\n  sun red 9\n  sky blue 5\n"),
            ("show b", "run 1 2\n  sun red 10\nrun 1 2\n  sun red 9\n  sky blue 5\n"),
        )

    def test_seen_wear_and_runs(self):
        desk = made(BOOK, "make a 6 2", "do a lay 1 4 sun red 9", "do a rub 2 3 3")
        self.answers(desk, ("seen a 0", "nothing"), ("seen a 1", "sun red 9"), ("seen a 2", "sun red 6"),
                     ("seen a 5", "nothing"), ("wear a 2", "1"), ("wear a 5", "2"), ("runs a", "5"))

    def test_pictures_and_films(self):
        desk = made(BOOK, "make a 6 2", "do a lay 1 4 sun red 9", "do a lay 3 5 sky blue 3")
        self.answers(
            desk, ("picture a 0", "1 nothing, 3 sun red, 1 sky blue, 1 nothing"),
            ("picture a 3", "1 nothing, 3 sun red, 1 sky blue, 1 nothing"),
            ("picture a 4", "1 nothing, 2 sun red, 2 sky blue, 1 nothing"),
            ("picture a {}".format(BIG), "3 nothing, 2 sky blue, 1 nothing"), ("film a 0", "0 nothing"),
            ("film a 1", "0 sun red, 5 nothing"), ("film a 3", "0 sun red, 4 sky blue"), ("film a 4", "0 sky blue"),
        )

    def test_parted(self):
        desk = made(BOOK, "make a 6 2", "make b 6 2", "make c 0 1", "make d 0 5", "make e {} 2".format(MOST),
                    "make f {} 2".format(MOST))
        self.answers(desk, ("part a b", "never"), ("part a a", "never"), ("part c d", "never"), ("part e f", "never"))
        desk.say("do a lay 3 5 sun red 9")
        desk.say("do f lay {0} {1} sun red 9".format(MOST - 1, MOST))
        self.answers(desk, ("part a b", "3:"), ("part b a", "3:"), ("part e f", "{}:".format(MOST - 1)))
        for row in ("make b 6 2", "do b lay 0 6 sun y 5", "do b lay 0 6 sun x 2", "make a 6 2", "do a lay 0 6 sun x 2",
                    "do a lay 0 6 sun y 5"):
            desk.say(row)
        self.check_parting(desk, desk.say("part a b"), 0)

    def check_parting(self, desk, told, at):
        """An answer that parts two leaves that are unlike by their order alone names this place, and deeds."""
        head, deeds = told.split(": ")
        self.assertEqual(head, str(at))
        deeds = [deed_of(deed) for deed in deeds.split(", ")]
        self.assertTrue(all(is_deed(deed, PALETTE) for deed in deeds))

    def test_names_that_are_words_of_rows(self):
        desk = made("book text 0 do 1")
        for name in ("make", "do", "text", "lay", "nothing", "never", "book"):
            self.answers(desk, ("make {} 2 3".format(name), "ok"), ("do {} lay 0 1 do lay 4".format(name), "ok"),
                         ("seen {} 0".format(name), "do lay 4"), ("mark " + name, "ok"), ("back " + name, "ok"))
        self.answers(desk, ("do make insert 0 do", "ok"), ("runs make", "4"), ("drop do", "ok"),
                     ("part text lay", "never"))

    def test_texts_are_those_of_the_book(self):
        desk = made(BOOK, "make b 6 2", "make a 3 0", "do b lay 1 3 sky red 4", "wait 2")
        text = desk.say("text")
        self.assertEqual(read_book(text), desk.book())
        self.assertEqual(book_text(desk.book()), text)
        self.assertEqual(leaf_text(desk.book().leaf("b")), desk.say("show b"))
        self.assertEqual(read_leaf(PALETTE, desk.say("show b")), desk.book().leaf("b"))


class Refused(Desks):
    def test_no_row(self):
        for desk in (made(BOOK, "make a 6 2", "mark a"), Desk()):
            for thing in [*NO_ROWS, *others(), True, False, 0, 1, b"text", ["text"], ("text",), {"text": 1}]:
                self.refused("NoRow", lambda: desk.say(thing), desk)

    def test_no_book(self):
        desk = Desk()
        for row in (
            "make a 1 1", "make a {} 9".format(BIG), "drop a", "wait 1", "wait 0", "mark a", "back a", "seen a 0",
            "wear a 0",
            "runs a", "picture a 0", "film a 0", "part a a", "show a", "text", "do a lay 0 1 sun red 1", "do a cut 1 0",
            "do a wash 0 1 sun 0", "do a warm 0 1 sun 1", "do a scrape 0 1", "do a rub 0 1 1", "do a insert 0 a",
            "do a press 0 1 a 0", "do a graft 0 1 a 0",
        ):
            self.refused("NoBook", lambda: desk.say(row), desk)
        self.refused("NoBook", desk.book, desk)
        self.refused("NoPalette", lambda: desk.say("book a 1 a 1"), desk, at=[1])
        self.refused("NoBook", desk.book, desk)

    def test_as_the_stages_refuse(self):
        desk = made(BOOK, "make a 6 0", "make b 3 1", "do a lay 2 6 sun red 4", "mark m", "make most {} 1".format(MOST))
        for row, error, who in (
            ("drop c", "NoName", "c"), ("back a", "NoName", "a"), ("seen c 0", "NoName", "c"),
            ("wear m 0", "NoName", "m"),
            ("runs c", "NoName", "c"), ("picture c 0", "NoName", "c"), ("film c 0", "NoName", "c"),
            ("part c d", "NoName", "c"), ("part a d", "NoName", "d"), ("show c", "NoName", "c"),
            ("wait 0", "NoAmount", 0),
            ("do c lay 9 0 moon red 0", "NoName", "c"), ("do a insert 9 c", "NoName", "c"),
            ("do a press 9 0 c 9", "NoName", "c"), ("do a graft 9 0 c 9", "NoName", "c"),
            ("do a lay 0 0 moon red 0", "NoInk", "moon"), ("do a lay 0 0 sun red 0", "NoAmount", 0),
            ("do a wash 0 0 sun 0", "NoAmount", 0), ("do a warm 0 0 moon 0", "NoInk", "moon"),
            ("do a rub 0 6 0", "NoAmount", 0),
        ):
            before = self.all_of(desk)
            caught = caught_of(getattr(errors, error), lambda: desk.say(row))
            self.assertEqual((caught.who, type(caught.who)), (who, type(who)))
            self.assertEqual(self.all_of(desk), before)
        for row in (
            "make a {} 9".format(MOST + 1), "seen a 6", "wear a 6", "film a 6", "do a lay 0 7 moon red 0",
            "do a cut 1 0",
            "do a insert 7 a", "do b press 0 3 a 4", "do b graft 0 1 b 3", "do a insert 0 most", "do a scrape 1 0",
            "do most insert 0 most", "seen most {}".format(MOST),
        ):
            self.refused("NoPlaces", lambda: desk.say(row), desk)
        for row in ("make a 6 7", "make c 0 {}".format(BIG)):
            self.refused("NoWear", lambda: desk.say(row), desk)
        for row in ("do a scrape 0 6", "do a rub 1 6 1"):
            self.refused("Worn", lambda: desk.say(row), desk, at=[2])
        self.refused("Unlike", lambda: desk.say("part a b"), desk)
        self.refused("NoPalette", lambda: desk.say("book sun 1 sky 2 sun 3 sky 4"), desk, at=[2])

    def test_what_is_refused_is_not_counted(self):
        desk = made(BOOK)
        for row in ("nothing", "drop a", "book a 1 a 1", "wait 0"):
            self.assertRaises((ValueError, LookupError, ArithmeticError), desk.say, row)
        desk.say_all([])
        self.assertEqual(desk.journal(), [("begin", 1), ("end", 1)])


class Several(Desks):
    def halted(self, desk, rows, at, told):
        handed = list(rows)
        caught = caught_of(Halted, lambda: desk.say_all(rows))
        self.assertEqual((caught.at, caught.told, rows), (at, told, handed))
        self.assertIs(type(caught.told), list)
        return caught

    def test_answers(self):
        desk = Desk()
        rows = [BOOK, "make a 3 2", "do a lay 0 2 sun red 9", "picture a 0", "runs a", "text"]
        handed = list(rows)
        told = desk.say_all(rows)
        self.assertEqual(told, ["ok", "ok", "ok", "2 sun red, 1 nothing", "2",
                                "ink sun 2\nink sky 0\nticks 0\nleaf a\n  run 2 2\n    sun red 9\n  run 1 2\n"])
        self.assertEqual((rows, type(told)), (handed, list))
        self.assertEqual(desk.journal(), [("begin", 0), ("end", 6)])

    def test_none(self):
        desk = Desk()
        self.assertEqual(desk.say_all([]), [])
        self.assertEqual(desk.journal(), [("begin", 0), ("end", 0)])

    def test_a_new_book_in_the_midst(self):
        desk = Desk()
        told = desk.say_all([BOOK, "make a 3 2", "book sea 1", "text", "make b 1 1", "show b"])
        self.assertEqual(told, ["ok", "ok", "ok", "ink sea 1\nticks 0\n", "ok", "run 1 1\n"])
        self.assertEqual(desk.book().names(), ["b"])
        self.halted(desk, ["wait 1", BOOK, "show b"], 2, ["ok", "ok"])
        self.assertEqual(desk.book().ticks(), 0)

    def test_halted_at_the_first_and_at_the_last(self):
        desk = Desk()
        self.halted(desk, ["text"], 0, [])
        self.halted(desk, ["text", BOOK], 0, [])
        self.refused("NoBook", desk.book, desk)
        self.halted(desk, [BOOK, "make a 3 2", "runs b"], 2, ["ok", "ok"])
        self.assertEqual(desk.book().names(), ["a"])
        self.assertEqual(desk.journal(), [("begin", 0), ("end", 0)] * 2 + [("begin", 0), ("end", 2)])

    def test_it_goes_no_further_and_what_was_done_stays(self):
        desk = made(BOOK)
        self.halted(desk, ["wait 1", "wait 2", "wait 0", "wait 4"], 2, ["ok", "ok"])
        self.assertEqual(desk.book().ticks(), 3)

    def test_halted_by_each_refusal(self):
        desk = made(BOOK, "make a 2 0", "make b 3 0", "do a lay 0 1 sun red 1")
        for row in (
            "nothing", "", None, 3, "drop c", "wait 0", "make c {} 0".format(MOST + 1), "make c 0 7", "do a scrape 0 2",
            "do a lay 0 1 moon red 1", "part a b", "book a 1 a 2", ["text"], "back a", "do a cut 2 3",
        ):
            caught = self.halted(desk, ["wear a 0", row, "wait 1"], 1, ["0"])
            self.assertIs(type(caught), Halted)
        self.assertEqual(desk.book().ticks(), 0)
        self.assertIsInstance(caught, errors.FadeError)

    def test_journal(self):
        desk = Desk()
        self.assertEqual(desk.journal(), [])
        desk.say(BOOK)
        desk.say("wait 1")
        desk.say_all(["wait 1", "wait 1", "text"])
        self.assertRaises(errors.NoRow, desk.say, "nothing")
        desk.say("text")
        self.halted(desk, ["wait 1", "nothing", "wait 1"], 1, ["ok"])
        desk.say_all([])
        expected = [("begin", 2), ("end", 5), ("begin", 6), ("end", 7), ("begin", 7), ("end", 7)]
        self.assertEqual(desk.journal(), expected)
        self.assertEqual([type(thing) for thing in (desk.journal(), *desk.journal())], [list] + [tuple] * 6)
        desk.journal().clear()
        desk.journal().append(1)
        self.assertEqual(desk.journal(), expected)
        self.assertIsNot(desk.journal(), desk.journal())

    def test_busy(self):
        desk = Desk()
        self.assertEqual(desk.busy(), 0)
        desk.say_all([BOOK, "wait 1"])
        self.assertEqual(desk.busy(), 0)
        self.halted(desk, ["nothing"], 0, [])
        self.assertEqual(desk.busy(), 0)
        self.assertIs(type(desk.busy()), int)

    def test_busy_within(self):
        desk, found = made(BOOK), []

        class Asking(str):
            """A row that asks how busy the desk is when its words are asked for."""

            def split(self, *items):
                found.append((desk.busy(), desk.journal()[-1]))
                return str.split(self, *items)

        desk.say_all([Asking("wait 1"), Asking("text")])
        self.assertEqual(found, [(1, ("begin", 1))] * 2)
        self.assertEqual((desk.busy(), desk.journal()), (0, [("begin", 1), ("end", 3)]))

    def test_however_it_ends(self):
        desk = made(BOOK)

        class Breaking(str):
            """A row that breaks with an error that is none of the program's."""

            def split(self, *items):
                raise KeyboardInterrupt

        self.assertRaises(KeyboardInterrupt, desk.say_all, ["wait 1", Breaking("wait 1")])
        self.assertEqual((desk.busy(), desk.journal()), (0, [("begin", 1), ("end", 2)]))

    def test_told_lists_are_the_askers_own(self):
        desk = made(BOOK)
        rows = ["wait 1", "wait 1"]
        told = desk.say_all(rows)
        told.clear()
        rows.clear()
        caught = self.halted(desk, ["wait 1", "nothing"], 1, ["ok"])
        caught.told.append("x")
        self.assertEqual(desk.say_all(["text"]), ["ink sun 2\nink sky 0\nticks 3\n"])


class Books(Desks):
    def test_a_book_like_its_own(self):
        desk = made(BOOK, "make a 3 2", "mark m", "wait 2")
        before = self.all_of(desk)
        book = desk.book()
        self.assertIs(type(book), Book)
        self.assertEqual((book.names(), book.ticks(), book.marked()), (["a"], 2, ["m"]))
        book.drop("a")
        book.mark("m")
        book.wait(1)
        self.assertEqual(self.all_of(desk), before)
        book = desk.book()
        book.back("m")
        self.assertEqual(book.ticks(), 0)
        desk.say("drop a")
        self.assertEqual((book.names(), desk.book().names()), (["a"], []))

    def test_two_desks(self):
        one, other = made(BOOK, "make a 3 2"), made(BOOK)
        other.say_all(["wait 1"])
        self.assertEqual((one.journal(), one.book().ticks(), other.book().names()), ([], 0, []))


class PlaceByPlace(Desks):
    """Whatever rows come, a desk answers what places with all their layers tell."""

    def check(self, model, desk, row):
        """A row told to both; tells its answer, None where it is refused."""
        try:
            expected = model.say(row)
        except Halt as halt:
            caught = caught_of(getattr(errors, halt.word), lambda: desk.say(row))
            self.assertEqual({name: getattr(caught, name) for name in halt.fields}, halt.fields, row)
            return None
        told = desk.say(row)
        if row.startswith("part ") and expected != "never":
            self.check_parting(model, row, expected, told)
        else:
            self.assertEqual((row, told), (row, expected))
        return told

    def check_parting(self, model, row, expected, told):
        head, _, tail = told.partition(" ")
        self.assertEqual(head, expected)
        deeds = [deed_of(deed) for deed in tail.split(", ") if deed]
        self.assertTrue(all(is_deed(deed, Palette(model.book.inks)) for deed in deeds))
        one, other = [model.book.leaf(name) for name in row.split()[1:]]
        self.assertIs(one.does_part(other, int(head[:-1]), deeds), True)
        self.assertEqual(told, " ".join([head] + [tail] * (deeds != [])))

    def sizes(self, model):
        return {} if model.book is None else {name: len(leaf.places) for name, leaf in model.book.leaves.items()}

    def thick(self, model):
        """Whether places have come to have so many layers that it takes long."""
        leaves = [] if model.book is None else model.book.leaves.values()
        return any(len(place.layers) > 30 for leaf in leaves for place in leaf.places)

    def test_drawn_row_by_row(self):
        answered = 0
        for seed in range(60):
            draws, model, desk = Draws(seed), DeskModel(), Desk()
            inks = draws.inks()
            rows = ["text", "book " + " ".join("{} {}".format(*ink) for ink in inks)]
            rows += ["make {} 6 3".format(name) for name in NAMES]
            for _ in range(90):
                row = rows.pop(0) if rows else drawn_row(draws, NAMES, inks, self.sizes(model))
                if self.thick(model):
                    row = "back a" if "a" in model.book.marks else "make {} 6 3".format(draws.pick(NAMES))
                self.check(model, desk, row)
            answered += model.answered
            if model.book is not None:
                self.assertEqual(self.check(model, desk, "text"), book_text(desk.book()))
        self.assertGreater(answered, 2700)

    def test_drawn_several_at_once(self):
        for seed in range(40):
            draws, model, desk = Draws(500 + seed), DeskModel(), Desk()
            journal = []
            for rows in [[BOOK, "make a 5 3", "make do 5 2"]] + [None] * 12:
                rows = rows or [drawn_row(draws, NAMES, INKS, self.sizes(model)) for _ in range(draws.below(6))]
                rows = [row for row in rows if not row.startswith(("part", "do a graft", "do do graft"))]
                journal.append(("begin", model.answered))
                expected = self.expected(model, rows)
                journal.append(("end", model.answered))
                if len(expected) == len(rows):
                    self.assertEqual(desk.say_all(rows), expected)
                else:
                    caught = caught_of(Halted, lambda: desk.say_all(rows))
                    self.assertEqual((caught.at, caught.told), (len(expected), expected))
                self.assertEqual((desk.journal(), desk.busy()), (journal, 0))

    def expected(self, model, rows):
        """The answers to rows as far as none is refused."""
        told = []
        for row in rows:
            try:
                told.append(model.say(row))
            except Halt:
                break
        return told

    def test_the_model_refuses_rows_alike(self):
        for row in NO_ROWS:
            with self.assertRaises(Halt) as caught:
                DeskModel().say(row)
            self.assertEqual(caught.exception.word, "NoRow", row)


class Calls(unittest.TestCase):
    def test_the_interface_is_defined_in_the_file(self):
        self.assertEqual(Desk.__module__, desk_file.__name__)
        for name in METHODS:
            self.assertIn(name, vars(Desk))

    def test_by_name(self):
        desk = Desk()
        self.assertEqual(desk.say(row=BOOK), "ok")
        self.assertEqual(desk.say_all(rows=["wait 1"]), ["ok"])


if __name__ == "__main__":
    unittest.main()
