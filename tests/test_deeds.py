import unittest

from fadeleaf import deeds
from fadeleaf.deeds import is_deed, wears
from fadeleaf.palettes import Palette
from things import Agreeing, Stubborn, no_amounts, no_names, others

PALETTE = Palette([("sun", 2), ("sky", 0)])
BIG = 10 ** 59
DEEDS = [
    ("lay", "sun", "red", 1),
    ("lay", "sky", "a", BIG),
    ("lay", "sky", "abcdefgh", 5),
    ("lay", "sun", "sun", 5),
    ("wait", 1),
    ("wait", BIG),
    ("wash", "sun", 1),
    ("wash", "sky", BIG),
    ("warm", "sun", 1),
    ("warm", "sky", BIG),
    ("scrape",),
    ("rub", 1),
    ("rub", BIG),
]


class IsDeed(unittest.TestCase):
    def test_deeds(self):
        for deed in DEEDS:
            self.assertIs(is_deed(deed, PALETTE), True, deed)

    def test_an_item_too_few_or_too_many(self):
        for deed in DEEDS:
            self.assertIs(is_deed(deed[:-1], PALETTE), False, deed)
            for more in (1, "sun", None, deed[-1]):
                self.assertIs(is_deed(deed + (more,), PALETTE), False, deed)

    def test_lists_for_tuples(self):
        for deed in DEEDS:
            self.assertIs(is_deed(list(deed), PALETTE), False, deed)
            self.assertIs(is_deed((deed,), PALETTE), False, deed)
            self.assertIs(is_deed(" ".join([str(word) for word in deed]), PALETTE), False, deed)

    def test_other_words(self):
        words = ["", "Lay", "LAY", "lays", "lay ", "lay\n", " lay", "washed", "sun", "cut", "press", "graft"]
        for word in words + [0, 1, True] + others():
            for rest in [(), (1,), ("sun", 1), ("sun", "red", 1)]:
                self.assertIs(is_deed((word, *rest), PALETTE), False)

    def test_words_with_the_items_of_others(self):
        items = [(), (1,), ("sun", 1), ("sun", "red", 1)]
        fitting = {"lay": 3, "wash": 2, "warm": 2, "wait": 1, "rub": 1, "scrape": 0}
        for word, many in fitting.items():
            for rest in items:
                self.assertIs(is_deed((word, *rest), PALETTE), len(rest) == many, (word, rest))

    def test_no_ink_of_the_palette(self):
        for ink in ["moon", "su", "red", *no_names(), ("sun", 2), PALETTE]:
            self.assertIs(is_deed(("lay", ink, "red", 1), PALETTE), False)
            self.assertIs(is_deed(("wash", ink, 1), PALETTE), False)
            self.assertIs(is_deed(("warm", ink, 1), PALETTE), False)

    def test_of_another_palette(self):
        palette = Palette([("moon", 1)])
        for deed in DEEDS:
            self.assertIs(is_deed(deed, palette), deed[0] in ("wait", "scrape", "rub"), deed)
        self.assertIs(is_deed(("lay", "moon", "red", 1), palette), True)

    def test_no_tag(self):
        for tag in no_names():
            self.assertIs(is_deed(("lay", "sun", tag, 1), PALETTE), False)

    def test_no_amount(self):
        for amount in no_amounts():
            for deed in [("lay", "sun", "red"), ("wash", "sun"), ("warm", "sky"), ("wait",), ("rub",)]:
                self.assertIs(is_deed((*deed, amount), PALETTE), False)

    def test_of_anything(self):
        for thing in [True, False, 0, 1, "", "scrape", "lay", (Agreeing(),), (Stubborn(),), ((),), PALETTE, *others()]:
            self.assertIs(is_deed(thing, PALETTE), False)
        self.assertIs(is_deed({"scrape": 1}, PALETTE), False)

    def test_what_is_handed_in_stays(self):
        thing = ["lay", "sun", ["red"], 1]
        palette = Palette([("sun", 2)])
        is_deed(thing, palette)
        is_deed(tuple(thing), palette)
        self.assertEqual(thing, ["lay", "sun", ["red"], 1])
        self.assertEqual(palette.inks(), [("sun", 2)])

    def test_by_name_and_again(self):
        self.assertEqual(deeds.is_deed.__module__, "fadeleaf.deeds")
        for _ in range(2):
            self.assertIs(is_deed(palette=PALETTE, thing=("scrape",)), True)
            self.assertIs(is_deed(palette=PALETTE, thing=("rub", 0)), False)


class Wears(unittest.TestCase):
    def test_scrapes_and_rubs_do(self):
        for deed in DEEDS:
            self.assertIs(wears(deed), deed[0] in ("scrape", "rub"), deed)

    def test_names_that_are_words_do_not(self):
        palette = Palette([("rub", 0), ("scrape", 0)])
        for deed in [("lay", "rub", "scrape", 1), ("lay", "scrape", "rub", 1), ("wash", "rub", 1), ("warm", "rub", 2)]:
            self.assertIs(is_deed(deed, palette), True)
            self.assertIs(wears(deed), False)

    def test_by_name(self):
        self.assertEqual(deeds.wears.__module__, "fadeleaf.deeds")
        self.assertIs(wears(deed=("rub", 2)), True)


if __name__ == "__main__":
    unittest.main()
