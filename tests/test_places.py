import unittest

from fadeleaf import places
from fadeleaf.errors import NoAmount, NoDeed, NoInk, NoTag, NoWear, Unlike, Worn
from fadeleaf.kept import Kept
from fadeleaf.palettes import Palette
from fadeleaf.places import Place
from model import Draws, Model
from things import BIG, INKS, UNLIKE, no_amounts, no_deeds, no_names, no_wears, others

PALETTE = Palette(INKS)
METHODS = (
    "palette", "wear", "row", "marks", "seen", "seen_mark", "lay", "wait", "wash", "warm", "scrape", "rub", "do",
    "graft", "press", "copied", "__eq__",
)


def made(*deeds, wear=3, palette=PALETTE):
    """A place behind deeds."""
    place = Place(palette, wear=wear)
    for deed in deeds:
        place.do(deed)
    return place


def told(place):
    """All that a place tells, as one value."""
    inks = place.palette().inks()
    rows = [(place.row(ink), place.marks(ink)) for ink, _ in inks]
    return (inks, place.wear(), rows, place.seen(), place.seen_mark())


def layered(wear=3):
    """A place with some layers of two inks."""
    return made(
        ("lay", "sun", "red", 4), ("lay", "sky", "red", 7), ("lay", "sun", "blue", 9), ("lay", "sun", "red", 9),
        wear=wear,
    )


class Making(unittest.TestCase):
    def test_wears(self):
        for wear in range(7):
            self.assertEqual(Place(PALETTE, wear=wear).wear(), wear)

    def test_wear_left_out_is_three(self):
        self.assertEqual(Place(PALETTE).wear(), 3)

    def test_no_wear(self):
        for thing in no_wears():
            with self.assertRaises(NoWear):
                Place(PALETTE, wear=thing)

    def test_without_layers(self):
        place = Place(PALETTE)
        self.assertEqual(place.palette(), PALETTE)
        self.assertEqual(told(place), (INKS, 3, [((), []), ((), [])], None, None))

    def test_wear_by_its_name_alone(self):
        with self.assertRaises(TypeError):
            Place(PALETTE, 3)
        self.assertEqual(Place(palette=PALETTE, wear=6).wear(), 6)


class Asking(unittest.TestCase):
    def test_rows_and_marks(self):
        place = layered()
        self.assertEqual(place.row("sun"), (("red", 4), ("blue", 9), ("red", 9)))
        self.assertEqual(place.marks("sun"), [0, 2, 3])
        self.assertEqual(place.row("sky"), (("red", 7),))
        self.assertEqual(place.marks("sky"), [1])
        self.assertEqual([type(thing) for thing in (place.row("sun"), *place.row("sun"))], [tuple] * 4)

    def test_no_ink(self):
        place = layered()
        before = told(place)
        for ask in (place.row, place.marks):
            for thing in ["moon", "su", "red", *no_names(), *INKS]:
                with self.assertRaises(NoInk) as caught:
                    ask(thing)
                self.assertIs(caught.exception.who, thing)
        self.assertEqual(told(place), before)

    def test_a_told_list_is_the_askers_own(self):
        place = layered()
        marks = place.marks("sun")
        marks.clear()
        self.assertEqual(place.marks("sun"), [0, 2, 3])
        self.assertIsNot(place.marks("sun"), place.marks("sun"))

    def test_asked_again_the_same_is_told(self):
        place = layered()
        self.assertEqual(told(place), told(place))


class Seen(unittest.TestCase):
    def test_the_strongest_first_of_the_inks(self):
        place = made(("lay", "sun", "a", 4), ("lay", "sky", "b", 6), ("lay", "sun", "c", 5))
        self.assertEqual((place.seen(), place.seen_mark()), (("sky", "b", 6), 1))
        place.lay("sun", "d", 7)
        self.assertEqual((place.seen(), place.seen_mark()), (("sun", "d", 7), 3))

    def test_of_inks_as_strong_the_one_first_in_order(self):
        deeds = [("lay", "sun", "a", 5), ("lay", "sky", "b", 5)]
        turned = Palette([("sky", 0), ("sun", 2)])
        for laid in (deeds, deeds[::-1]):
            self.assertEqual(made(*laid).seen(), ("sun", "a", 5))
            self.assertEqual(made(*laid, palette=turned).seen(), ("sky", "b", 5))

    def test_of_layers_as_strong_the_upper(self):
        place = made(("lay", "sky", "b", 5), ("lay", "sky", "a", 5), ("lay", "sky", "c", 4))
        self.assertEqual((place.seen(), place.seen_mark()), (("sky", "a", 5), 1))

    def test_strengths_are_numbers(self):
        self.assertEqual(made(("lay", "sun", "a", 9), ("lay", "sky", "a", 10)).seen(), ("sky", "a", 10))
        self.assertEqual(made(("lay", "sun", "a", BIG), ("lay", "sky", "a", BIG + 1)).seen(), ("sky", "a", BIG + 1))


class Deeds(unittest.TestCase):
    """Each deed, by its method and as a tuple."""

    def both(self, place, deed):
        """What the place is behind a deed that is done in both ways."""
        other = place.copied()
        by_method = getattr(place, deed[0])(*deed[1:])
        by_tuple = other.do(deed)
        self.assertEqual(told(place), told(other))
        self.assertIsNone(by_tuple)
        if deed[0] != "lay":
            self.assertIsNone(by_method)
        return place

    def test_lay(self):
        place = self.both(layered(), ("lay", "sun", "sea", 1))
        self.assertEqual(place.row("sun"), (("red", 4), ("blue", 9), ("red", 9), ("sea", 1)))
        self.assertEqual(place.marks("sun"), [0, 2, 3, 4])
        self.assertEqual(place.row("sky"), (("red", 7),))

    def test_lay_tells_the_mark(self):
        place = Place(PALETTE)
        self.assertEqual([place.lay("sun", "a", 1), place.lay("sky", "a", 1), place.lay("sun", "a", 1)], [0, 1, 2])

    def test_wait(self):
        place = self.both(layered(), ("wait", 2))
        self.assertEqual((place.row("sun"), place.marks("sun")), ((("blue", 5), ("red", 5)), [2, 3]))
        self.assertEqual(place.row("sky"), (("red", 7),))

    def test_fade_zero(self):
        place = self.both(layered(), ("wait", BIG))
        self.assertEqual((place.row("sun"), place.row("sky")), ((), (("red", 7),)))

    def test_wash(self):
        place = self.both(layered(), ("wash", "sun", 4))
        self.assertEqual((place.row("sun"), place.marks("sun")), ((("blue", 5), ("red", 5)), [2, 3]))
        self.assertEqual(place.row("sky"), (("red", 7),))

    def test_warm(self):
        place = self.both(layered(), ("warm", "sun", 4))
        self.assertEqual(place.row("sun"), (("red", 8), ("blue", 13), ("red", 13)))
        self.assertEqual((place.marks("sun"), place.row("sky")), ([0, 2, 3], (("red", 7),)))

    def test_scrape(self):
        place = self.both(layered(), ("scrape",))
        self.assertEqual((place.row("sun"), place.marks("sun")), ((("red", 4), ("blue", 9)), [0, 2]))
        self.assertEqual((place.row("sky"), place.wear()), ((("red", 7),), 2))

    def test_rub(self):
        place = self.both(layered(), ("rub", 6))
        self.assertEqual(place.row("sun"), (("red", 4), ("blue", 9), ("red", 3)))
        self.assertEqual((place.marks("sun"), place.row("sky"), place.wear()), ([0, 2, 3], (("red", 7),), 2))

    def test_scrape_and_rub_are_done_to_what_is_seen(self):
        place = made(("lay", "sun", "a", 5), ("lay", "sky", "b", 5))
        self.assertEqual(self.both(place, ("rub", 1)).seen(), ("sky", "b", 5))
        self.assertEqual(self.both(place, ("scrape",)).seen(), ("sun", "a", 4))
        self.assertEqual((place.row("sun"), place.row("sky")), ((("a", 4),), ()))

    def test_numbers_of_sixty_figures(self):
        place = made(("lay", "sun", "a", BIG), ("lay", "sun", "b", 1))
        self.assertEqual(self.both(place, ("warm", "sun", BIG)).row("sun"), (("a", 2 * BIG), ("b", BIG + 1)))
        self.assertEqual(self.both(place, ("rub", 2 * BIG - 1)).row("sun"), (("a", 1), ("b", BIG + 1)))
        self.assertEqual(self.both(place, ("wait", BIG // 2)).row("sun"), (("b", 1),))

    def test_of_no_layers(self):
        for deed in (("wait", 1), ("wash", "sun", 1), ("warm", "sky", 1), ("scrape",), ("rub", 1)):
            self.assertEqual(told(self.both(Place(PALETTE), deed)), told(Place(PALETTE)))

    def test_deeds_drawn_against_the_model(self):
        for seed in range(60):
            draws = Draws(seed)
            inks = draws.inks()
            model, place = Model(inks, seed % 7), Place(Palette(inks), wear=seed % 7)
            for deed in draws.deeds(inks, 40):
                if model.refuses(deed):
                    with self.assertRaises(Worn):
                        place.do(deed)
                else:
                    place.do(deed)
                rows = [(model.row(ink), model.marks(ink)) for ink, _ in inks]
                self.assertEqual(told(place), (inks, model.wear, rows, model.seen(), model.seen_mark()))


class Gone(unittest.TestCase):
    """What comes to just 0, in each way, and doesn't come back."""

    def check(self, deed, ink):
        place = made(("lay", ink, "a", 4), ("lay", ink, "b", 5), ("lay", ink, "c", 4))
        if deed[0] == "rub":
            place = made(("lay", ink, "b", 1), ("lay", ink, "a", 4))
        place.do(deed)
        self.assertEqual(place.row(ink), (("b", 1),))
        place.warm(ink, 9)
        self.assertEqual(place.row(ink), (("b", 10),))

    def test_washed(self):
        self.check(("wash", "sun", 4), "sun")

    def test_waited(self):
        self.check(("wait", 2), "sun")

    def test_rubbed(self):
        self.check(("rub", 4), "sky")
        self.check(("rub", 5), "sky")

    def test_all_at_once(self):
        for deed in (("wash", "sun", 5), ("wait", 3), ("wash", "sun", BIG), ("wait", BIG)):
            place = made(("lay", "sun", "a", 4), ("lay", "sun", "b", 5), deed, ("warm", "sun", 9))
            self.assertEqual(told(place), told(Place(PALETTE)))

    def test_marks_behind_what_is_gone(self):
        place = made(("lay", "sun", "a", 4), ("wash", "sun", 4))
        self.assertEqual(place.lay("sun", "a", 4), 1)
        place.scrape()
        self.assertEqual(place.lay("sky", "a", 4), 2)
        self.assertEqual((place.marks("sun"), place.marks("sky")), ([], [2]))


class Wear(unittest.TestCase):
    def test_one_less_behind_each(self):
        place = layered(wear=6)
        for left, deed in ((5, ("scrape",)), (4, ("rub", 1)), (3, ("rub", BIG)), (2, ("scrape",))):
            place.do(deed)
            self.assertEqual(place.wear(), left)

    def test_other_deeds_wear_not(self):
        place = layered(wear=0)
        for deed in (("lay", "sun", "a", 1), ("wait", 1), ("wash", "sun", 1), ("warm", "sun", 1)):
            place.do(deed)
            self.assertEqual(place.wear(), 0)

    def test_where_nothing_is_seen(self):
        for wear in (0, 1, 6):
            place = Place(PALETTE, wear=wear)
            place.scrape()
            place.rub(1)
            place.do(("scrape",))
            place.do(("rub", BIG))
            self.assertEqual(told(place), told(Place(PALETTE, wear=wear)))

    def test_worn(self):
        place = layered(wear=0)
        before = told(place)
        calls = [
            lambda: place.scrape(), lambda: place.rub(1), lambda: place.do(("scrape",)), lambda: place.do(("rub", BIG)),
        ]
        for call in calls:
            with self.assertRaises(Worn) as caught:
                call()
            self.assertEqual(caught.exception.at, 0)
            self.assertEqual(told(place), before)

    def test_worn_down(self):
        place = made(("lay", "sun", "a", 9), wear=2)
        place.rub(1)
        place.rub(1)
        with self.assertRaises(Worn):
            place.rub(1)
        self.assertEqual((place.row("sun"), place.wear()), ((("a", 7),), 0))
        place.wash("sun", 7)
        place.scrape()
        self.assertEqual(place.wear(), 0)


class Refusals(unittest.TestCase):
    def check(self, error, who, call, place):
        before = told(place)
        with self.assertRaises(error) as caught:
            call()
        if who is not None:
            self.assertIs(caught.exception.who, who[0])
        self.assertEqual(told(place), before)
        self.assertEqual(place.copied().lay("sun", "a", 1), 4)

    def test_no_ink(self):
        place = layered(wear=0)
        for ink in ["moon", "su", "red", *no_names(), ("sun", 2)]:
            self.check(NoInk, [ink], lambda: place.lay(ink, "a", 1), place)
            self.check(NoInk, [ink], lambda: place.wash(ink, 1), place)
            self.check(NoInk, [ink], lambda: place.warm(ink, 1), place)

    def test_no_tag(self):
        place = layered()
        for tag in no_names():
            self.check(NoTag, [tag], lambda: place.lay("sun", tag, 1), place)

    def test_no_amount(self):
        for place in (layered(), layered(wear=0)):
            for n in no_amounts():
                self.check(NoAmount, [n], lambda: place.lay("sun", "a", n), place)
                self.check(NoAmount, [n], lambda: place.wait(n), place)
                self.check(NoAmount, [n], lambda: place.wash("sun", n), place)
                self.check(NoAmount, [n], lambda: place.warm("sky", n), place)
                self.check(NoAmount, [n], lambda: place.rub(n), place)

    def test_no_amount_where_nothing_is_seen(self):
        for wear in (0, 3):
            with self.assertRaises(NoAmount):
                Place(PALETTE, wear=wear).rub(0)

    def test_the_argument_told_first_goes_first(self):
        place = layered()
        self.check(NoInk, ["moon"], lambda: place.lay("moon", "", 0), place)
        self.check(NoInk, ["moon"], lambda: place.lay("moon", "a", 0), place)
        self.check(NoInk, ["moon"], lambda: place.lay("moon", "", 1), place)
        self.check(NoInk, ["moon"], lambda: place.lay(strength=0, tag="", ink="moon"), place)
        self.check(NoTag, [""], lambda: place.lay("sun", "", 0), place)
        self.check(NoInk, ["moon"], lambda: place.wash("moon", 0), place)
        self.check(NoInk, ["moon"], lambda: place.warm("moon", 0), place)

    def test_all_ahead_of_worn(self):
        place = layered(wear=0)
        self.check(NoAmount, [0], lambda: place.rub(0), place)
        self.check(NoDeed, None, lambda: place.do(("rub", 0)), place)
        self.check(NoDeed, None, lambda: place.do(("scrape", 1)), place)

    def test_no_deed(self):
        for place in (layered(), layered(wear=0)):
            for thing in no_deeds():
                self.check(NoDeed, None, lambda: place.do(thing), place)


class Grafting(unittest.TestCase):
    def test_on_top_with_new_marks_by_the_inks_order(self):
        place = made(("lay", "sky", "z", 1), ("lay", "sun", "z", 5))
        other = layered()
        before = told(other)
        self.assertIsNone(place.graft(other))
        self.assertEqual(place.row("sun"), (("z", 5), ("red", 4), ("blue", 9), ("red", 9)))
        self.assertEqual(place.marks("sun"), [1, 2, 3, 4])
        self.assertEqual(place.row("sky"), (("z", 1), ("red", 7)))
        self.assertEqual(place.marks("sky"), [0, 5])
        self.assertEqual(place.lay("sky", "a", 1), 6)
        self.assertEqual(told(other), before)

    def test_the_lesser_wear(self):
        for one, other in ((2, 5), (5, 2), (0, 6), (3, 3)):
            place = made(wear=one)
            place.graft(layered(wear=other))
            self.assertEqual(place.wear(), min(one, other))

    def test_of_and_onto_no_layers(self):
        place = layered(wear=5)
        place.graft(Place(PALETTE, wear=5))
        self.assertEqual(told(place), told(layered(wear=5)))
        bare = Place(PALETTE, wear=5)
        bare.graft(layered(wear=5))
        self.assertEqual([bare.row("sun"), bare.row("sky")], [place.row("sun"), place.row("sky")])
        self.assertEqual([bare.marks("sun"), bare.marks("sky")], [[0, 1, 2], [3]])

    def test_onto_itself(self):
        place = layered()
        place.graft(place)
        self.assertEqual(place.row("sun"), (("red", 4), ("blue", 9), ("red", 9)) * 2)
        self.assertEqual(place.marks("sun"), [0, 2, 3, 4, 5, 6])
        self.assertEqual((place.row("sky"), place.marks("sky")), ((("red", 7), ("red", 7)), [1, 7]))
        self.assertEqual((place.wear(), place.lay("sun", "a", 1)), (3, 8))

    def test_gone_layers_are_not_grafted(self):
        other = made(("lay", "sun", "a", 1), ("lay", "sun", "b", 5), ("wash", "sun", 1), ("scrape",))
        place = layered()
        place.graft(other)
        self.assertEqual(told(place), told(layered(wear=2)))

    def test_unlike(self):
        for act in ("graft", "press"):
            for inks in UNLIKE:
                place, other = layered(), Place(Palette(inks), wear=0)
                other.lay("sun", "a", 4)
                before = told(place), told(other)
                with self.assertRaises(Unlike):
                    getattr(place, act)(other)
                with self.assertRaises(Unlike):
                    getattr(other, act)(place)
                self.assertEqual((told(place), told(other)), before)

    def test_of_another_palette_that_is_equal(self):
        place = layered()
        place.graft(made(("lay", "sun", "a", 1), palette=Palette(list(INKS))))
        self.assertEqual(place.marks("sun"), [0, 2, 3, 4])


class Pressing(unittest.TestCase):
    def press(self, *deeds, wear=3):
        place, other = layered(), made(*deeds, wear=wear)
        before = told(other)
        self.assertIsNone(place.press(other))
        self.assertEqual(told(other), before)
        return place

    def test_half_the_strength_rounded_down(self):
        for strength, half in ((2, 1), (3, 1), (4, 2), (9, 4), (BIG, BIG // 2), (BIG + 1, BIG // 2)):
            place = self.press(("lay", "sky", "sea", 1), ("lay", "sky", "sea", strength))
            self.assertEqual((place.row("sky"), place.marks("sky")), ((("red", 7), ("sea", half)), [1, 4]))
            self.assertEqual(place.wear(), 3)

    def test_half_of_one_and_nothing_seen(self):
        for deeds in ([("lay", "sun", "a", 1)], [], [("lay", "sun", "a", 1), ("lay", "sky", "a", 1)]):
            place = self.press(*deeds)
            self.assertEqual(told(place), told(layered()))
            self.assertEqual(place.lay("sun", "a", 1), 4)

    def test_wears_have_no_bearing(self):
        place = layered(wear=0)
        place.press(made(("lay", "sun", "a", 4), wear=6))
        self.assertEqual((place.wear(), place.row("sun")[-1]), (0, ("a", 2)))
        self.assertEqual(self.press(("lay", "sun", "a", 4), wear=0).wear(), 3)

    def test_what_is_seen_of_inks_as_strong(self):
        place = self.press(("lay", "sky", "a", 6), ("lay", "sun", "b", 6))
        self.assertEqual((place.row("sun")[-1], place.row("sky")), (("b", 3), (("red", 7),)))

    def test_onto_itself(self):
        place = layered()
        place.press(place)
        self.assertEqual(place.row("sun"), (("red", 4), ("blue", 9), ("red", 9), ("red", 4)))
        self.assertEqual(place.marks("sun"), [0, 2, 3, 4])


class Copies(unittest.TestCase):
    def test_a_copy_is_the_same_and_gives_the_same_marks(self):
        place = made(("lay", "sun", "a", 4), ("lay", "sun", "b", 4), ("scrape",))
        other = place.copied()
        self.assertIs(type(other), Place)
        self.assertEqual(told(other), told(place))
        self.assertEqual((other.lay("sky", "a", 1), place.lay("sky", "a", 1)), (2, 2))

    def test_neither_knows_of_the_other(self):
        deeds = [("lay", "sun", "a", 4), ("wait", 1), ("wash", "sun", 1), ("warm", "sun", 1), ("scrape",), ("rub", 1)]
        for deed in deeds:
            place = layered()
            other = place.copied()
            other.do(deed)
            self.assertEqual(told(place), told(layered()))
            other = place.copied()
            place.do(deed)
            self.assertEqual(told(other), told(layered()))

    def test_two_places_of_one_palette(self):
        one, other = Place(PALETTE), Place(PALETTE)
        one.lay("sun", "a", 1)
        self.assertEqual(told(other), told(Place(PALETTE)))


class Comparing(unittest.TestCase):
    def test_equal(self):
        self.assertIs(layered() == layered(), True)
        self.assertIs(layered() != layered(), False)
        self.assertIs(layered() == layered().copied(), True)
        self.assertIs(Place(PALETTE) == Place(Palette(list(INKS))), True)

    def test_unequal(self):
        more = layered()
        more.lay("sky", "a", 1)
        for other in (layered(wear=2), more, Place(PALETTE)):
            self.assertIs(layered() == other, False)
            self.assertIs(layered() != other, True)

    def test_one_difference_in_a_layer(self):
        place = made(("lay", "sun", "a", 4))
        for deed in (("lay", "sky", "a", 4), ("lay", "sun", "b", 4), ("lay", "sun", "a", 5)):
            self.assertIs(place == made(deed), False)
        turned = made(("lay", "sun", "a", 4), ("lay", "sun", "a", 3))
        self.assertIs(turned == made(("lay", "sun", "a", 3), ("lay", "sun", "a", 4)), False)

    def test_marks(self):
        place = made(("lay", "sun", "a", 4), ("wash", "sun", 4), ("lay", "sun", "a", 4))
        self.assertIs(place == made(("lay", "sun", "a", 4)), False)
        self.assertIs(made(("lay", "sun", "a", 4), ("wash", "sun", 4)) == Place(PALETTE), True)

    def test_palettes(self):
        for inks in UNLIKE:
            self.assertIs(Place(PALETTE) == Place(Palette(inks)), False)

    def test_anything_else(self):
        place = layered()
        for thing in [PALETTE, Kept(PALETTE), told(place), place.row("sun"), 3, True, None, "sun", *others()]:
            self.assertIs(place == thing, False)
            self.assertIs(place != thing, True)


class Calls(unittest.TestCase):
    def test_the_interface_is_defined_in_the_class(self):
        self.assertEqual(places.Place.__module__, "fadeleaf.places")
        for name in METHODS:
            self.assertIn(name, vars(Place))

    def test_by_name(self):
        place = Place(palette=PALETTE)
        self.assertEqual(place.lay(strength=9, tag="a", ink="sun"), 0)
        place.wait(ticks=1)
        place.wash(n=1, ink="sun")
        place.warm(n=2, ink="sun")
        place.rub(n=3)
        place.do(deed=("lay", "sky", "b", 2))
        self.assertEqual((place.row(ink="sun"), place.marks(ink="sky")), ((("a", 5),), [1]))
        place.graft(other=Place(PALETTE))
        place.press(other=made(("lay", "sky", "c", 2)))
        self.assertEqual(place.row("sky"), (("b", 2), ("c", 1)))

    def test_the_handed_palette_stays(self):
        palette = Palette(list(INKS))
        place = made(("lay", "sun", "a", 1), palette=palette)
        place.palette().inks().clear()
        self.assertEqual((palette.inks(), place.palette().inks()), (INKS, INKS))


if __name__ == "__main__":
    unittest.main()
