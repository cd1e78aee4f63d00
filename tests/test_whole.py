"""The whole interface by its names and arguments, and promises over all stages together."""

import importlib
import inspect
import unittest

from fadeleaf.books import Book
from fadeleaf.booktexts import book_text, read_book
from fadeleaf.films import film, picture_ahead
from fadeleaf.kept import kept_of
from fadeleaf.leaftexts import leaf_text, read_leaf
from fadeleaf.leaves import Leaf, leaf_parting
from fadeleaf.moving import graft_onto, press_onto
from fadeleaf.palettes import Palette
from fadeleaf.parting import does_part, parting
from fadeleaf.places import Place
from leafmodel import film_of, what
from leaftools import MOST, both_do, drawn_pair, drawn_range, told
from model import Draws, Model, do_part
from things import INKS

# Of each file: the names of its plain values, then its functions and methods with their arguments.
FUNCTIONS = {
    "palettes": ["is_name(thing)", "is_amount(thing)"],
    "rows": [
        "ranked(row)", "first(row)", "weaker(row, n)", "stronger(row, n)", "rubbed(row, n)", "scraped(row)",
        "thinned(row, many)", "normal(row)", "alike(one, other)",
    ],
    "deeds": ["is_deed(thing, palette)", "wears(deed)"],
    "kept": ["kept_of(place)", "done(kept, deeds)"],
    "papers": [
        "rank(place, mark)", "is_kept(place, mark)", "brought(place, mark)", "fewest(place, mark)",
        "does_bring(place, mark, deeds)", "does_bar(place, mark, marks)",
    ],
    "parting": ["parting(one, other)", "does_part(one, other, deeds)"],
    "runs": ["joined(pairs)"],
    "leaves": ["leaf_parting(one, other)"],
    "films": ["film(place)", "picture_ahead(leaf, ticks)", "leaf_film(leaf)", "next_change(leaf)", "last_change(leaf)"],
    "moving": ["graft_onto(leaf, begin, end, other, *, at=0)", "press_onto(leaf, begin, end, other, *, at=0)"],
    "leaftexts": ["leaf_text(leaf)", "read_leaf(palette, text)"],
    "booktexts": ["book_text(book)", "read_book(text)"],
}
PLACE = [
    "(palette, *, wear=3)", "palette()", "wear()", "row(ink)", "seen()", "lay(ink, tag, strength)", "wait(ticks)",
    "wash(ink, n)", "warm(ink, n)", "scrape()", "rub(n)", "do(deed)", "graft(other)", "press(other)", "copied()",
    "__eq__(other)",
]
CLASSES = {
    ("palettes", "Palette"): [
        "(inks)", "inks()", "names()", "has(name)", "fade(name)", "order(name)", "__eq__(other)", "__len__()",
    ],
    ("places", "Place"): PLACE + ["marks(ink)", "seen_mark()"],
    ("kept", "Kept"): PLACE + ["rows()"],
    ("leaves", "Leaf"): [
        "(palette, many, *, wear=3)", "palette()", "many()", "runs()", "place(at)", "picture()",
        "lay(begin, end, ink, tag, strength)", "wash(begin, end, ink, n)", "warm(begin, end, ink, n)",
        "scrape(begin, end)", "rub(begin, end, n)", "wait(ticks)", "cut(begin, end)", "insert(at, other)", "copied()",
        "__eq__(other)", "__len__()",
    ],
    ("books", "Book"): [
        "(palette)", "palette()", "ticks()", "names()", "make(name, many, *, wear=3)", "put(name, leaf)", "drop(name)",
        "do(name, deed)", "wait(ticks)", "mark(name)", "back(name)", "leaf(name)", "marked()", "copied()",
        "__eq__(other)", "__len__()",
    ],
    ("desk", "Desk"): ["()", "say(row)", "say_all(rows)", "journal()", "busy()", "book()"],
}
VALUES = {"MOST_INKS": 8, "MOST_WEAR": 6, "WEAR": 3, "MOST_PLACES": 10 ** 18}


def module(name):
    return importlib.import_module("fadeleaf." + name)


class Interface(unittest.TestCase):
    def test_values(self):
        for name, value in VALUES.items():
            self.assertEqual(getattr(module("palettes"), name), value)

    def test_functions(self):
        for file, functions in FUNCTIONS.items():
            for told_as in functions:
                function = getattr(module(file), told_as.partition("(")[0])
                self.assertEqual(function.__module__, "fadeleaf." + file)
                self.assertEqual(function.__name__ + str(inspect.signature(function)), told_as)

    def test_classes(self):
        for (file, name), methods in CLASSES.items():
            made = getattr(module(file), name)
            self.assertEqual((made.__module__, made.__name__), ("fadeleaf." + file, name))
            for told_as in methods:
                method, _, arguments = told_as.partition("(")
                # Each stands in the class itself, not in one above.
                function = vars(made).get(method or "__init__")
                self.assertIsNotNone(function, (name, told_as))
                self.assertEqual(str(inspect.signature(function)).replace("self, ", "").replace("self", ""),
                                 "(" + arguments, (name, told_as))


class AllTogether(unittest.TestCase):
    def leaves(self, seed):
        """Drawn leaves of one palette, cut, put together, grafted, pressed, and their models."""
        draws = Draws(seed)
        inks = draws.inks()
        pairs = [drawn_pair(draws, inks) for _ in range(2)]
        for _ in range(12):
            (model, leaf), (other, other_leaf) = draws.pick(pairs), draws.pick(pairs)
            many = min(len(model.places), len(other.places))
            lot = draws.below(4)
            if lot == 0 and len(model.places) < 15:
                model.insert(many, other)
                leaf.insert(many, other_leaf)
            elif lot == 1 and max([len(place.layers) for place in model.places], default=0) < 20:
                model.move("graft", 0, many, other, 0)
                graft_onto(leaf, 0, many, other_leaf)
            elif lot == 2:
                model.move("press", 0, many, other, 0)
                press_onto(leaf, 0, many, other_leaf)
            else:
                both_do(model, leaf, *drawn_range(draws, len(model.places)), draws.deed(inks))
        return draws, pairs

    def test_a_leaf_keeps_of_each_place_just_what_could_be_seen(self):
        for seed in range(40):
            _, pairs = self.leaves(seed)
            for model, leaf in pairs:
                for at, place in enumerate(model.places):
                    whole = Place(leaf.palette(), wear=place.wear)
                    for layer in place.layers:
                        if layer.there:
                            whole.lay(layer.ink, layer.tag, layer.strength)
                    self.assertEqual(kept_of(whole), leaf.place(at))
                    self.assertIsNone(parting(whole, leaf.place(at)))
                    self.assertEqual(film(whole), film(leaf.place(at)))

    def test_places_of_a_leaf_are_in_one_run_just_where_nothing_parts_them(self):
        for seed in range(40):
            _, pairs = self.leaves(seed)
            for model, leaf in pairs:
                ends, at = [], 0
                for many, _, _ in leaf.runs():
                    at += many
                    ends.append(at)
                for at in range(1, leaf.many()):
                    deeds = parting(leaf.place(at - 1), leaf.place(at))
                    self.assertIs(deeds is not None, at in ends)
                    if deeds is not None:
                        self.assertIs(does_part(leaf.place(at - 1), leaf.place(at), deeds), True)
                        self.assertIs(do_part(model.places[at - 1], model.places[at], deeds), True)

    def test_equal_texts_equal_leaves_and_none_that_parts(self):
        for seed in range(60):
            draws, pairs = self.leaves(seed)
            one = pairs[0][1]
            other = one.copied()
            both_do(pairs[0][0].copied(), other, *drawn_range(draws, one.many()), draws.deed(one.palette().inks()))
            same = one == other
            self.assertIs(leaf_text(one) == leaf_text(other), same)
            self.assertIs(leaf_parting(one, other) is None, same)
            self.assertEqual(read_leaf(one.palette(), leaf_text(one)), one)
            books = []
            for leaf in (one, other):
                books.append(Book(one.palette()))
                books[-1].put("a", leaf)
            self.assertIs(books[0] == books[1], same)
            self.assertIs(book_text(books[0]) == book_text(books[1]), same)

    def test_what_is_read_goes_on_as_what_was_written(self):
        for seed in range(30):
            draws, pairs = self.leaves(300 + seed)
            model, leaf = pairs[0]
            again = read_leaf(leaf.palette(), leaf_text(leaf))
            for _ in range(15):
                begin, end = drawn_range(draws, len(model.places))
                deed = draws.deed(model.inks)
                both_do(model.copied(), again, begin, end, deed)
                both_do(model, leaf, begin, end, deed)
                self.assertEqual(told(again), told(leaf))

    def test_films_ahead_are_what_comes_to_be_seen(self):
        for seed in range(30):
            _, pairs = self.leaves(600 + seed)
            for model, leaf in pairs:
                left = leaf.copied()
                for ticks in range(12):
                    shown = [(many, what(seen)) for many, seen in left.picture()]
                    # At strengths that differ places may see the same; the picture ahead joins these.
                    joined_again = []
                    for many, one in shown:
                        if joined_again and joined_again[-1][1] == one:
                            many += joined_again.pop()[0]
                        joined_again.append((many, one))
                    self.assertEqual(picture_ahead(leaf, ticks), joined_again)
                    left.wait(1)
                for at, place in enumerate(model.places):
                    self.assertEqual(film(leaf.place(at)), film_of(place, 200)[:9])

    def test_a_book_marked_gone_back_written_and_read(self):
        palette = Palette(INKS)
        book = Book(palette)
        book.make("most", MOST)
        book.do("most", ("lay", 7, MOST - 7, "sun", "red", 10 ** 299))
        book.mark("m")
        text = book_text(book)
        book.do("most", ("scrape", MOST // 2, MOST))
        book.do("most", ("press", 0, MOST // 2, "most", MOST // 2))
        book.wait(10 ** 59)
        changed = book_text(book)
        self.assertNotEqual(changed, text)
        self.assertEqual(read_book(changed), book)
        book.back("m")
        self.assertEqual((book_text(book), read_book(text)), (text, book))

    def test_no_stage_changes_the_palette_or_what_is_handed_in(self):
        palette = Palette(list(INKS))
        place, leaf = Place(palette), Leaf(palette, 4)
        place.lay("sun", "red", 4)
        leaf.lay(0, 2, "sun", "red", 4)
        before = (place.row("sun"), place.marks("sun"), told(leaf))
        book = Book(palette)
        book.put("a", leaf)
        kept_of(place).scrape()
        film(place)
        parting(place, kept_of(place))
        graft_onto(Leaf(palette, 4), 0, 4, leaf)
        book.do("a", ("graft", 0, 4, "a", 0))
        read_leaf(palette, leaf_text(leaf))
        self.assertEqual((place.row("sun"), place.marks("sun"), told(leaf), palette.inks()), (*before, INKS))

    def test_the_model_keeps_every_layer(self):
        model = Model(INKS, 0)
        for deed in [("lay", "sun", "a", 1), ("wash", "sun", 1), ("lay", "sun", "b", 2)]:
            model.do(deed)
        self.assertEqual((len(model.layers), model.seen()), (2, ("sun", "b", 2)))


if __name__ == "__main__":
    unittest.main()
