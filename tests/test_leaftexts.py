import unittest

from fadeleaf import leaftexts
from fadeleaf.errors import NoText
from fadeleaf.leaftexts import leaf_text, read_leaf
from fadeleaf.leaves import Leaf
from fadeleaf.palettes import Palette
from leafmodel import could_be_leaf, first_wrong, is_leaf, text
from leaftools import MOST, PALETTE, Refusing, caught_of, drawn_pair, made, spoilt, striped, told
from model import Draws
from things import BIG, INKS, others

BIG_NUMBER = str(BIG)


class Written(Refusing):
    def check(self, leaf, *rows):
        before = told(leaf)
        written = leaf_text(leaf)
        self.assertEqual(written, text(rows))
        self.assertIs(type(written), str)
        again = read_leaf(leaf.palette(), written)
        self.assertIs(type(again), Leaf)
        self.assertEqual((told(again), again == leaf), (before, True))
        self.assertEqual(told(leaf), before)

    def test_without_places(self):
        self.check(Leaf(PALETTE, 0))
        self.assertEqual(leaf_text(Leaf(PALETTE, 0)), "")

    def test_bare(self):
        self.check(Leaf(PALETTE, 5), "run 5 3")
        self.check(Leaf(PALETTE, 1, wear=0), "run 1 0")
        self.check(Leaf(PALETTE, MOST, wear=6), "run 1000000000000000000 6")
        self.check(striped(1, 0, 0, 6), "run 1 1", "run 2 0", "run 1 6")

    def test_layers(self):
        self.check(made(5, ("lay", 0, 5, "sun", "red", 4), ("lay", 0, 5, "sun", "sky", 7)),
                   "run 5 3", "  sun red 4 sky 7")
        leaf = made(5, ("lay", 0, 5, "sky", "red", BIG), ("lay", 0, 2, "sun", "a", 1), ("lay", 4, 5, "sun", "b", 12))
        self.check(leaf, "run 2 3", "  sun a 1", "  sky red " + BIG_NUMBER, "run 2 3", "  sky red " + BIG_NUMBER,
                   "run 1 3", "  sun b 12", "  sky red " + BIG_NUMBER)

    def test_in_the_order_of_inks_not_of_letters(self):
        leaf = made(1, ("lay", 0, 1, "b", "x", 1), ("lay", 0, 1, "a", "y", 2), ("lay", 0, 1, "c", "z", 3),
                    inks=[("c", 0), ("a", 1), ("b", 2)])
        self.check(leaf, "run 1 3", "  c z 3", "  a y 2", "  b x 1")

    def test_thinned_and_normal(self):
        layers = [("lay", 0, 2, "sun", tag, n) for tag, n in (("a", 5), ("a", 3), ("b", 9), ("a", 4), ("b", 1))]
        self.check(made(2, *layers, wear=3), "run 2 3", "  sun a 3 a 5 b 9 a 4")

    def test_tags_like_inks_and_words(self):
        leaf = made(1, ("lay", 0, 1, "sun", "run", 1), ("lay", 0, 1, "sun", "sun", 2))
        self.check(leaf, "run 1 3", "  sun run 1 sun 2")

    def test_numbers_of_three_hundred_figures(self):
        huge = 10 ** 299 + 7
        self.check(made(1, ("lay", 0, 1, "sun", "a", huge)), "run 1 3", "  sun a " + str(huge))

    def test_drawn(self):
        for seed in range(80):
            draws = Draws(seed)
            model, leaf = drawn_pair(draws, draws.inks(), most=25)
            self.check(leaf, *model.rows())


class Read(unittest.TestCase):
    def refused(self, palette, given, at):
        caught = caught_of(NoText, lambda: read_leaf(palette, given))
        self.assertEqual(caught.at, at, given)

    def read(self, given, palette=PALETTE):
        leaf = read_leaf(palette, given)
        self.assertEqual(leaf_text(leaf), given)
        self.assertEqual(leaf.palette(), palette)
        return leaf

    def test_read(self):
        self.assertEqual(self.read(""), Leaf(PALETTE, 0))
        self.assertEqual(self.read("run 5 3\n"), Leaf(PALETTE, 5))
        leaf = self.read("run 5 3\n  sun red 4 sky 7\nrun 1 0\n  sky a 9\n")
        self.assertEqual(leaf.runs(), [(5, 3, ((("red", 4), ("sky", 7)), ())), (1, 0, ((), (("a", 9),)))])

    def test_what_is_read_lives_on(self):
        leaf = self.read("run 5 1\n  sun red 4 sky 7\n")
        leaf.scrape(0, 2)
        self.assertEqual(leaf.runs(), [(2, 0, ((("red", 4),), ())), (3, 1, ((("red", 4), ("sky", 7)), ()))])
        self.assertNotEqual(leaf, self.read("run 5 1\n  sun red 4 sky 7\n"))

    def test_no_text(self):
        for thing in [*others(), True, False, 0, 1, -1, b"run 5 3\n", ["run 5 3\n"], ("run 5 3",), {"run": 5}]:
            self.refused(PALETTE, thing, None)

    def test_a_last_row_without_its_line_feed(self):
        self.refused(PALETTE, "run 5 3", 1)
        self.refused(PALETTE, "run 5 3\n  sun red 4", 2)
        self.refused(PALETTE, "run 5 3\nrun 5 3", 2)
        self.refused(PALETTE, "run 5 3\nrun 5 4\nx", 3)
        self.refused(PALETTE, " ", 1)

    def test_empty_rows(self):
        self.refused(PALETTE, "\n", 1)
        self.refused(PALETTE, "\nrun 5 3\n", 1)
        self.refused(PALETTE, "run 5 3\n\n", 2)
        self.refused(PALETTE, "run 5 3\n\n  sun red 4\n", 2)

    def test_rows_of_runs(self):
        for row in (
            "run", "run ", "run 5", "run 5 ", "run 5 3 ", "run 5 3 1", " run 5 3", "  run 5 3", "run  5 3", "run 5  3",
            "Run 5 3", "runs 5 3", "run05 3", "run 05 3", "run 5 03", "run 00 3", "run 0 3", "run -5 3", "run +5 3",
            "run 5 7", "run 5 10", "run 5 -1", "run a 3", "run 5 a", "run 5_0 3", "run 5, 3", "run 0x5 3", "run 5.0 3",
            "run 1000000000000000001 3", "run 2000000000000000000 3", "leaf a", "ink sun 2", "ticks 0", "5 3",
            "sun red 4", "run 3 5 3", "  sun red 4", "  ", "   ", "run 5 3 sun red 4",
        ):
            self.refused(PALETTE, row + "\n", 1)
            self.refused(PALETTE, row + "\nrun 5 3\n", 1)
        for wear in range(7):
            self.read("run 5 {}\n".format(wear))

    def test_rows_of_layers(self):
        for row in (
            "  sun", "  sun ", "  sun red", "  sun red ", "  sun red 4 ", "  sun red 4 sky", " sun red 4",
            "   sun red 4", "sun red 4", "  sun  red 4", "  sun red  4", "  moon red 4", "  Sun red 4", "  sun Red 4",
            "  sun red 04",
            "  sun red 0", "  sun red 00", "  sun red -4", "  sun red +4", "  sun red a", "  sun 4 red", "  sun 4",
            "  sun abcdefghi 4", "  sun red 4 4", "  sun red red 4", "  sun red 4 sky 0", "  sun red 4 sky 07",
            "  sun red 1_0", "  sun re-d 4", "  su red 4", "   ", "  ", "    sun red 4", "  sun red 4.0", "  sunred 4",
            "  red 4", "  sun red 4 sun", "  sun  4",
        ):
            self.refused(PALETTE, "run 5 3\n" + row + "\n", 2)
            self.refused(PALETTE, "run 5 3\n" + row + "\n  sky a 1\n", 2)
        self.read("run 5 3\n  sun abcdefgh 10\n")

    def test_an_ink_out_of_order_or_twice(self):
        self.refused(PALETTE, "run 5 3\n  sky a 1\n  sun a 1\n", 3)
        self.refused(PALETTE, "run 5 3\n  sun a 1\n  sun a 2\n", 3)
        self.refused(PALETTE, "run 5 3\n  sky a 1\n  sky b 1\n", 3)
        self.read("run 5 3\n  sun a 1\n  sky a 1\nrun 5 3\n  sky a 1\nrun 5 3\n  sun a 1\n")

    def test_a_row_that_is_not_thinned(self):
        for wear in range(7):
            layers = " ".join("a {}".format(n) for n in range(1, wear + 2))
            self.read("run 5 {}\n  sun {}\n".format(wear, layers))
            self.refused(PALETTE, "run 5 {}\n  sun {} b 9\n".format(wear, layers), 2)
        self.refused(PALETTE, "run 5 0\n  sun a 1\n  sky a 2 a 2\n", 3)

    def test_a_row_that_is_not_normal(self):
        self.refused(PALETTE, "run 5 3\n  sun a 2 a 1\n", 2)
        self.refused(PALETTE, "run 5 3\n  sun b 9 a 2 a 1 b 1\n", 2)
        self.read("run 5 3\n  sun a 1 a 2\n")
        self.read("run 5 3\n  sun a 2 a 2\n")
        self.read("run 5 3\n  sun a 2 b 9 a 1\n")

    def test_a_run_that_could_stand_with_the_one_ahead(self):
        self.refused(PALETTE, "run 5 3\nrun 5 3\n", 3)
        self.refused(PALETTE, "run 5 3\nrun 5 3\nrun 5 4\n", 3)
        self.refused(PALETTE, "run 5 3\nrun 5 3\n  sun a 1\nrun 2 3\n  sun a 1\nx\n", 6)
        self.read("run 5 3\nrun 5 3\n  sky a 1\nrun 2 3\n")
        self.read("run 5 3\nrun 5 4\nrun 5 3\n")

    def test_that_may_be_another_run_with_more_rows(self):
        ahead = "run 5 3\n  sun a 1\nrun 5 3\n"
        self.read(ahead)
        self.refused(PALETTE, ahead + "  sun a 1\n", 5)
        self.refused(PALETTE, ahead + "  sun a 1\nrun 5 4\n", 5)
        self.read(ahead + "  sun a 1\n  sky a 1\n")
        self.read(ahead + "  sun a 2\n")
        both = "run 5 3\n  sun a 1\n  sky b 1\nrun 5 3\n"
        self.read(both)
        self.read(both + "  sun a 1\n")
        self.refused(PALETTE, both + "  sun a 1\n  sky b 1\n", 6)
        self.refused(PALETTE, both + "  sun a 1\n  sky b 1\nrun 5 4\n", 6)
        last = "run 5 3\n  sky b 1\nrun 5 3\n"
        self.refused(PALETTE, last + "  sky b 1\n", 4)
        self.read(last + "  sky b 2\n")

    def test_with_one_ink(self):
        palette = Palette([("sun", 2)])
        self.refused(palette, "run 5 3\nrun 5 3\n", 3)
        self.refused(palette, "run 5 3\n  sun a 1\nrun 5 3\n  sun a 1\n", 4)
        self.read("run 5 3\n  sun a 1\nrun 5 3\nrun 5 3\n  sun a 1\n", palette)

    def test_more_than_can_be_in_all(self):
        self.read("run {} 3\nrun 1 2\n".format(MOST - 1))
        self.refused(PALETTE, "run {} 3\nrun 1 2\n".format(MOST), 2)
        self.refused(PALETTE, "run {} 3\nrun 2 2\n".format(MOST - 1), 2)
        self.refused(PALETTE, "run {0} 3\nrun {0} 2\nrun 1 3\n".format(MOST // 2), 3)
        self.refused(PALETTE, "run {} 3\nrun {} 2\n".format(MOST, BIG_NUMBER), 2)

    def test_of_the_palette(self):
        given = "run 5 3\n  sky red 4\n"
        self.read(given)
        self.read(given, Palette([("sky", 7)]))
        self.refused(Palette([("sun", 2), ("sea", 0)]), given, 2)
        self.refused(Palette([("sky", 0), ("sun", 2)]), "run 5 3\n  sun red 4\n  sky red 4\n", 3)

    def test_spoilt_by_a_stroke(self):
        counts = {True: 0, False: 0}
        for seed in range(600):
            draws = Draws(seed)
            inks = draws.inks()
            model, _ = drawn_pair(draws, inks, most=16)
            given = spoilt(draws, text(model.rows()))
            if draws.below(4) == 0:
                given = spoilt(draws, given)
            *rows, rest = given.split("\n")
            at = first_wrong(rows, rest, lambda told_rows: is_leaf(inks, told_rows),
                             lambda told_rows: could_be_leaf(inks, told_rows))
            counts[at is None] += 1
            if at is None:
                self.read(given, Palette(inks))
            else:
                self.refused(Palette(inks), given, at)
        self.assertGreater(min(counts.values()), 100)


class Calls(unittest.TestCase):
    def test_the_interface_is_defined_in_the_file(self):
        for thing in (leaf_text, read_leaf):
            self.assertEqual(thing.__module__, leaftexts.__name__)

    def test_by_name(self):
        leaf = made(4, ("lay", 1, 2, "sun", "a", 5))
        self.assertEqual(read_leaf(text=leaf_text(leaf=leaf), palette=PALETTE), leaf)

    def test_the_palette_stays(self):
        palette = Palette(list(INKS))
        for given in ("run 5 3\n", "x\n"):
            try:
                read_leaf(palette, given)
            except NoText:
                pass
            self.assertEqual(palette.inks(), INKS)


if __name__ == "__main__":
    unittest.main()
