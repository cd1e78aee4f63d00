import unittest

from fadeleaf import palettes
from fadeleaf.errors import NoInk, NoPalette
from fadeleaf.palettes import Palette, is_amount, is_name
from things import Agreeing, no_amounts, no_names, others

INKS = [("sun", 2), ("sky", 0), ("a", 1), ("abcdefgh", 10 ** 60)]


class Limits(unittest.TestCase):
    def test_limits(self):
        self.assertEqual(palettes.MOST_INKS, 8)
        self.assertEqual(palettes.MOST_WEAR, 6)
        self.assertEqual(palettes.WEAR, 3)
        self.assertEqual(palettes.MOST_PLACES, 10 ** 18)

    def test_the_interface_is_defined_in_the_file(self):
        for thing in (is_name, is_amount, Palette):
            self.assertEqual(thing.__module__, "fadeleaf.palettes")
        for name in ("inks", "names", "has", "fade", "order", "__eq__", "__len__"):
            self.assertIn(name, vars(Palette))


class Names(unittest.TestCase):
    def test_names(self):
        for name in ("a", "z", "sun", "abcdefgh", "zzzzzzzz", "lay", "scrape"):
            self.assertIs(is_name(name), True, name)

    def test_every_letter_and_no_other_sign(self):
        for code in range(ord(" "), ord("~") + 1):
            sign = chr(code)
            for text in (sign, "ab" + sign, sign + "ab"):
                self.assertIs(is_name(text), "a" <= sign <= "z", text)

    def test_of_anything_else(self):
        for thing in no_names():
            self.assertIs(is_name(thing), False)

    def test_by_name(self):
        self.assertIs(is_name(thing="sun"), True)


class Amounts(unittest.TestCase):
    def test_amounts(self):
        for amount in (1, 2, 10 ** 59, 10 ** 999):
            self.assertIs(is_amount(amount), True)

    def test_of_anything_else(self):
        for thing in no_amounts():
            self.assertIs(is_amount(thing), False)

    def test_by_name(self):
        self.assertIs(is_amount(thing=0), False)


class Making(unittest.TestCase):
    def refused_at(self, inks):
        with self.assertRaises(NoPalette) as caught:
            Palette(inks)
        return caught.exception.at

    def test_one_to_eight_inks(self):
        for many in range(1, 9):
            inks = [("ink" + "abcdefgh"[k], k) for k in range(many)]
            palette = Palette(inks)
            self.assertEqual(palette.inks(), inks)
            self.assertEqual(len(palette), many)

    def test_none_and_nine(self):
        self.assertIsNone(self.refused_at([]))
        self.assertIsNone(self.refused_at([("abcdefghi"[k], k) for k in range(9)]))

    def test_nine_are_refused_ahead_of_what_is_wrong_in_them(self):
        self.assertIsNone(self.refused_at([None] * 9))

    def test_no_list(self):
        wrong = [tuple(INKS), dict(INKS), set(INKS), "sun", 0, 1, True, False, Palette(INKS), ("sun", 2)]
        for thing in wrong + others():
            if not isinstance(thing, list):
                self.assertIsNone(self.refused_at(thing))

    def test_no_ink(self):
        wrong = [("sun", -1), ("sun", True), ("sun", False), ("sun", None), ("sun", "1"), ("sun", [1]), ("sun",)]
        wrong += [("sun", 1, 1), ["sun", 1], {"sun": 1, "sky": 2}, {"sun", 1}, "su", "sun", 5, True, (1, "sun"), b"su"]
        wrong += [("sun", -(10 ** 60)), ("sun", Agreeing())]
        for thing in wrong + [(name, 1) for name in no_names()] + others():
            self.assertEqual(self.refused_at([thing]), 0)
            self.assertEqual(self.refused_at([("red", 1), ("blue", 0), thing]), 2)

    def test_the_first_wrong_thing(self):
        self.assertEqual(self.refused_at([("red", 1), None, ("red", 2), None]), 1)
        self.assertEqual(self.refused_at([("red", 1), ("red", 2), None]), 1)
        self.assertEqual(self.refused_at([("red", 1)] * 8), 1)

    def test_two_inks_of_one_name(self):
        self.assertEqual(self.refused_at([("red", 1), ("blue", 1), ("red", 1)]), 2)
        self.assertEqual(self.refused_at([("red", 1), ("blue", 1), ("green", 4), ("blue", 2)]), 3)

    def test_a_wrong_ink_of_a_name_again(self):
        self.assertEqual(self.refused_at([("red", 1), ("red", -1)]), 1)

    def test_fade_zero_and_two_of_one_fade(self):
        self.assertEqual(Palette([("sun", 0), ("sky", 0)]).inks(), [("sun", 0), ("sky", 0)])

    def test_by_name(self):
        self.assertEqual(Palette(inks=[("sun", 0)]).names(), ["sun"])

    def test_the_handed_list_stays_and_has_no_bearing(self):
        for change in (list.clear, list.pop, list.reverse, lambda inks: inks.append(("red", 1))):
            inks = list(INKS)
            palette = Palette(inks)
            self.assertEqual(inks, INKS)
            change(inks)
            self.assertEqual(palette.inks(), INKS)
            self.assertEqual(palette.names(), ["sun", "sky", "a", "abcdefgh"])
            self.assertEqual(len(palette), 4)

    def test_a_refused_list_stays(self):
        inks = [("sun", 2), None]
        self.refused_at(inks)
        self.assertEqual(inks, [("sun", 2), None])


class Asking(unittest.TestCase):
    def test_inks_and_names_in_order(self):
        palette = Palette(INKS)
        self.assertEqual(palette.inks(), INKS)
        self.assertEqual(palette.names(), ["sun", "sky", "a", "abcdefgh"])
        self.assertIs(type(palette.inks()), list)
        self.assertEqual([type(ink) for ink in palette.inks()], [tuple] * 4)
        self.assertIs(type(palette.names()), list)

    def test_told_lists_are_the_askers_own(self):
        palette = Palette(INKS)
        inks, names = palette.inks(), palette.names()
        inks.clear()
        names.reverse()
        self.assertEqual(palette.inks(), INKS)
        self.assertEqual(palette.names(), ["sun", "sky", "a", "abcdefgh"])
        self.assertEqual(palette.order("sun"), 0)
        self.assertIsNot(palette.inks(), palette.inks())
        self.assertIsNot(palette.names(), palette.names())

    def test_has(self):
        palette = Palette(INKS)
        for name, _ in INKS:
            self.assertIs(palette.has(name), True)
        for thing in ["moon", "b", "su", "suns", *no_names(), *INKS]:
            self.assertIs(palette.has(thing), False)

    def test_fade_and_order(self):
        palette = Palette(INKS)
        for at, (name, fade) in enumerate(INKS):
            self.assertEqual(palette.fade(name), fade)
            self.assertEqual(palette.order(name), at)

    def test_no_ink(self):
        palette = Palette(INKS)
        for ask in (palette.fade, palette.order):
            for thing in ["moon", "su", *no_names(), *INKS]:
                with self.assertRaises(NoInk) as caught:
                    ask(thing)
                self.assertIs(caught.exception.who, thing)

    def test_by_name(self):
        palette = Palette(INKS)
        self.assertIs(palette.has(name="sky"), True)
        self.assertEqual(palette.fade(name="sun"), 2)
        self.assertEqual(palette.order(name="sky"), 1)

    def test_asked_again_the_same_is_told(self):
        palette = Palette(INKS)
        told = []
        for _ in range(2):
            asked = (palette.inks(), palette.names(), palette.has("sun"), palette.fade("sun"), palette.order("a"))
            told.append((*asked, len(palette)))
        self.assertEqual(told[0], told[1])


class Comparing(unittest.TestCase):
    def test_equal_where_made_of_the_same(self):
        self.assertIs(Palette(INKS) == Palette(list(INKS)), True)
        self.assertIs(Palette(INKS) != Palette(list(INKS)), False)

    def test_unequal(self):
        palette = Palette([("sun", 2), ("sky", 0)])
        for inks in ([("sun", 2)], [("sun", 2), ("sky", 1)], [("sun", 2), ("sea", 0)], [("sky", 0), ("sun", 2)], INKS):
            self.assertIs(palette == Palette(inks), False)
            self.assertIs(palette != Palette(inks), True)

    def test_anything_else_is_not_equal(self):
        palette = Palette(INKS)
        for thing in [INKS, tuple(INKS), dict(INKS), 4, True, "sun", palette.names(), *others()]:
            self.assertIs(palette == thing, False)
            self.assertIs(palette != thing, True)

    def test_two_palettes_know_nothing_of_each_other(self):
        one, other = Palette([("sun", 2)]), Palette([("sun", 3), ("sky", 1)])
        self.assertEqual((one.inks(), one.fade("sun"), one.has("sky")), ([("sun", 2)], 2, False))
        self.assertEqual((other.inks(), other.fade("sun"), other.has("sky")), ([("sun", 3), ("sky", 1)], 3, True))


if __name__ == "__main__":
    unittest.main()
