import unittest

from fadeleaf import kept as kept_file
from fadeleaf.errors import NoAmount, NoDeed, NoInk, NoTag, NoWear, Unlike, Worn
from fadeleaf.kept import Kept, done, kept_of
from fadeleaf.palettes import Palette
from fadeleaf.places import Place
from model import Draws, Model
from things import BIG, INKS, UNLIKE, no_amounts, no_deeds, no_names, no_wears, others

PALETTE = Palette(INKS)
METHODS = (
    "palette", "wear", "row", "rows", "seen", "lay", "wait", "wash", "warm", "scrape", "rub", "do", "graft", "press",
    "copied", "__eq__",
)
LAYERS = [
    ("lay", "sun", "red", 4), ("lay", "sky", "red", 7), ("lay", "sun", "blue", 9), ("lay", "sun", "red", 9),
]


def made(*deeds, wear=3, kind=Kept, palette=PALETTE):
    """A kept place, or a place, behind deeds."""
    place = kind(palette, wear=wear)
    for deed in deeds:
        place.do(deed)
    return place


def told(kept):
    """All that a kept place tells, as one value."""
    inks = kept.palette().inks()
    return (inks, kept.wear(), kept.rows(), [kept.row(ink) for ink, _ in inks], kept.seen())


def of_model(model):
    """What a kept place has to tell that is kept of a model."""
    rows = model.thinned_rows()
    return (model.inks, model.wear, rows, list(rows), model.seen())


class Making(unittest.TestCase):
    def test_wears(self):
        for wear in range(7):
            self.assertEqual(told(Kept(PALETTE, wear=wear)), (INKS, wear, ((), ()), [(), ()], None))

    def test_wear_left_out_is_three(self):
        self.assertEqual(Kept(PALETTE).wear(), 3)

    def test_no_wear(self):
        for thing in no_wears():
            with self.assertRaises(NoWear):
                Kept(PALETTE, wear=thing)

    def test_wear_by_its_name_alone(self):
        with self.assertRaises(TypeError):
            Kept(PALETTE, 3)
        self.assertEqual(Kept(palette=PALETTE, wear=6).palette(), PALETTE)

    def test_no_marks(self):
        kept = made(*LAYERS)
        self.assertFalse(hasattr(kept, "marks"))
        self.assertFalse(hasattr(kept, "seen_mark"))
        self.assertIsNone(kept.lay("sun", "a", 1))
        self.assertNotIsInstance(kept, Place)


class Thinned(unittest.TestCase):
    def test_to_wear_and_one(self):
        layers = [("lay", "sun", tag, strength) for tag, strength in zip("abcdefghi", (3, 8, 5, 1, 9, 2, 7, 4, 6))]
        for wear in range(7):
            row = tuple(deed[2:] for deed in layers if deed[3] > 8 - wear)
            self.assertEqual(made(*layers, wear=wear).rows(), (row, ()))

    def test_each_row_by_itself(self):
        kept = made(*LAYERS, ("lay", "sky", "blue", 1), ("lay", "sky", "a", 2), wear=1)
        self.assertEqual(kept.rows(), ((("blue", 9), ("red", 9)), (("red", 7), ("a", 2))))

    def test_normal(self):
        layers = [("lay", "sun", "a", 3), ("lay", "sun", "a", 1), ("lay", "sun", "b", 2), ("lay", "sun", "a", 2)]
        self.assertEqual(made(*layers).row("sun"), (("a", 1), ("a", 3), ("b", 2), ("a", 2)))

    def test_normal_behind_what_thins(self):
        layers = [("lay", "sun", "a", 9), ("lay", "sun", "b", 1), ("lay", "sun", "a", 8)]
        self.assertEqual(made(*layers, wear=2).row("sun"), (("a", 9), ("b", 1), ("a", 8)))
        self.assertEqual(made(*layers, wear=1).row("sun"), (("a", 8), ("a", 9)))
        self.assertEqual(made(*layers, ("wash", "sun", 1), wear=2).row("sun"), (("a", 7), ("a", 8)))
        self.assertEqual(made(*layers, ("wait", 1), wear=2).row("sun"), (("a", 6), ("a", 7)))

    def test_all_rows_behind_a_scrape_and_a_rub(self):
        deeds = [("lay", "sun", "a", 9), ("lay", "sun", "a", 3), ("lay", "sky", "b", 1), ("lay", "sky", "b", 2)]
        kept = made(*deeds, wear=1)
        kept.rub(7)
        self.assertEqual((kept.wear(), kept.rows()), (0, ((("a", 3),), (("b", 2),))))
        kept = made(*deeds, wear=1)
        kept.scrape()
        self.assertEqual((kept.wear(), kept.rows()), (0, ((("a", 3),), (("b", 2),))))

    def test_rubbed_in_its_stretch(self):
        kept = made(("lay", "sun", "a", 5), ("lay", "sun", "a", 9), ("rub", 6))
        self.assertEqual(kept.row("sun"), (("a", 3), ("a", 5)))

    def test_rows_are_tuples(self):
        rows = made(*LAYERS).rows()
        self.assertEqual([type(thing) for thing in (rows, *rows, *rows[0])], [tuple] * 6)


class Deeds(unittest.TestCase):
    """Each deed, by its method and as a tuple."""

    def both(self, kept, deed):
        other = kept.copied()
        self.assertIsNone(getattr(kept, deed[0])(*deed[1:]))
        self.assertIsNone(other.do(deed))
        self.assertEqual(told(kept), told(other))
        return told(kept)[1:3]

    def test_each(self):
        sun, sky = (("red", 4), ("blue", 9), ("red", 9)), (("red", 7),)
        expected = [
            (("lay", "sky", "a", 1), (3, (sun, sky + (("a", 1),)))),
            (("wait", 2), (3, ((("blue", 5), ("red", 5)), sky))),
            (("wash", "sun", 4), (3, ((("blue", 5), ("red", 5)), sky))),
            (("warm", "sky", BIG), (3, (sun, (("red", 7 + BIG),)))),
            (("scrape",), (2, (sun[:2], sky))),
            (("rub", 8), (2, (sun[:2] + (("red", 1),), sky))),
            (("rub", 9), (2, (sun[:2], sky))),
        ]
        for deed, behind in expected:
            self.assertEqual(self.both(made(*LAYERS), deed), behind)

    def test_seen(self):
        self.assertEqual(made(*LAYERS).seen(), ("sun", "red", 9))
        self.assertEqual(made(("lay", "sky", "a", 5), ("lay", "sun", "b", 5)).seen(), ("sun", "b", 5))
        self.assertEqual(made(("lay", "sky", "b", 5), ("lay", "sky", "a", 5)).seen(), ("sky", "a", 5))
        self.assertIsNone(made(("lay", "sky", "a", 5), ("wash", "sky", 5), ("warm", "sky", 5)).seen())

    def test_where_nothing_is_seen(self):
        for wear in (0, 3):
            for deed in (("scrape",), ("rub", 1), ("wait", BIG), ("wash", "sun", 1), ("warm", "sun", 1)):
                self.assertEqual(self.both(Kept(PALETTE, wear=wear), deed), (wear, ((), ())))

    def test_worn(self):
        kept = made(*LAYERS, wear=0)
        before = told(kept)
        for call in (kept.scrape, lambda: kept.rub(1), lambda: kept.do(("scrape",)), lambda: kept.do(("rub", 1))):
            with self.assertRaises(Worn) as caught:
                call()
            self.assertEqual(caught.exception.at, 0)
            self.assertEqual(told(kept), before)


class Refusals(unittest.TestCase):
    def check(self, error, who, call, kept):
        before = told(kept)
        with self.assertRaises(error) as caught:
            call()
        if who is not None:
            self.assertIs(caught.exception.who, who[0])
        self.assertEqual(told(kept), before)

    def test_no_ink(self):
        kept = made(*LAYERS, wear=0)
        for ink in ["moon", "su", *no_names(), ("sun", 2)]:
            self.check(NoInk, [ink], lambda: kept.row(ink), kept)
            self.check(NoInk, [ink], lambda: kept.lay(ink, "", 0), kept)
            self.check(NoInk, [ink], lambda: kept.wash(ink, 0), kept)
            self.check(NoInk, [ink], lambda: kept.warm(ink, 1), kept)

    def test_no_tag(self):
        kept = made(*LAYERS)
        for tag in no_names():
            self.check(NoTag, [tag], lambda: kept.lay("sun", tag, 0), kept)

    def test_no_amount(self):
        for kept in (made(*LAYERS), made(*LAYERS, wear=0), Kept(PALETTE)):
            for n in no_amounts():
                self.check(NoAmount, [n], lambda: kept.lay("sun", "a", n), kept)
                self.check(NoAmount, [n], lambda: kept.wait(n), kept)
                self.check(NoAmount, [n], lambda: kept.wash("sun", n), kept)
                self.check(NoAmount, [n], lambda: kept.warm("sky", n), kept)
                self.check(NoAmount, [n], lambda: kept.rub(n), kept)

    def test_no_deed(self):
        for kept in (made(*LAYERS), made(*LAYERS, wear=0)):
            for thing in no_deeds():
                self.check(NoDeed, None, lambda: kept.do(thing), kept)

    def test_unlike(self):
        for inks in UNLIKE:
            kept, other = made(*LAYERS), made(("lay", "sun", "a", 4), palette=Palette(inks), wear=0)
            for one, another in ((kept, other), (other, kept)):
                self.check(Unlike, None, lambda: one.graft(another), one)
                self.check(Unlike, None, lambda: one.press(another), one)


class GraftsAndPresses(unittest.TestCase):
    def test_grafted(self):
        kept, other = made(*LAYERS, wear=5), made(("lay", "sun", "red", 8), ("lay", "sky", "a", 7), wear=2)
        before = told(other)
        self.assertIsNone(kept.graft(other))
        self.assertEqual(kept.rows(), ((("blue", 9), ("red", 8), ("red", 9)), (("red", 7), ("a", 7))))
        self.assertEqual((kept.wear(), told(other)), (2, before))

    def test_grafted_onto_itself(self):
        kept = made(*LAYERS)
        self.assertIsNone(kept.graft(kept))
        row = (("blue", 9), ("red", 9), ("blue", 9), ("red", 9))
        self.assertEqual((kept.wear(), kept.rows()), (3, (row, (("red", 7), ("red", 7)))))

    def test_pressed(self):
        kept, other = made(*LAYERS, wear=0), made(("lay", "sky", "a", 27), wear=6)
        before = told(other)
        self.assertIsNone(kept.press(other))
        self.assertEqual((kept.wear(), kept.rows()), (0, ((("red", 9),), (("a", 13),))))
        self.assertEqual(told(other), before)

    def test_half_of_one_and_nothing_seen(self):
        for other in (made(("lay", "sun", "a", 1)), Kept(PALETTE)):
            kept = made(*LAYERS)
            kept.press(other)
            self.assertEqual(told(kept), told(made(*LAYERS)))

    def test_pressed_onto_itself(self):
        kept = made(*LAYERS)
        self.assertIsNone(kept.press(kept))
        self.assertEqual(kept.row("sun"), (("red", 4), ("blue", 9), ("red", 4), ("red", 9)))


class KeptOf(unittest.TestCase):
    def test_palette_wear_and_rows(self):
        for wear in range(7):
            place = made(*LAYERS, ("lay", "sun", "red", 1), kind=Place, wear=wear)
            marks, rows = place.marks("sun"), [place.row("sun"), place.row("sky")]
            self.assertEqual(told(kept_of(place)), told(made(*LAYERS, ("lay", "sun", "red", 1), wear=wear)))
            self.assertEqual((place.marks("sun"), [place.row("sun"), place.row("sky")]), (marks, rows))
            self.assertEqual((place.wear(), type(kept_of(place))), (wear, Kept))

    def test_neither_knows_of_the_other(self):
        place = made(*LAYERS, kind=Place)
        kept = kept_of(place)
        place.scrape()
        self.assertEqual(told(kept), told(made(*LAYERS)))
        kept.wash("sun", 9)
        self.assertEqual(place.row("sun"), (("red", 4), ("blue", 9)))

    def test_a_place_without_layers(self):
        self.assertEqual(kept_of(Place(PALETTE, wear=0)), Kept(PALETTE, wear=0))


class TheSameForEver(unittest.TestCase):
    """Behind all deeds, grafts and presses a kept place tells what the place with all its layers tells."""

    def check(self, model, place, kept):
        self.assertEqual((place.wear(), place.seen(), place.seen_mark()), (model.wear, model.seen(), model.seen_mark()))
        for ink, _ in model.inks:
            self.assertEqual((place.row(ink), place.marks(ink)), (model.row(ink), model.marks(ink)))
        self.assertEqual(told(kept), of_model(model))
        self.assertIs(kept_of(place) == kept, True)

    def do(self, trio, deed):
        model, place, kept = trio
        if not model.refuses(deed):
            place.do(deed)
            kept.do(deed)
            return
        for one in (place, kept):
            with self.assertRaises(Worn):
                one.do(deed)

    def test_deeds_drawn(self):
        for seed in range(120):
            draws = Draws(seed)
            inks = draws.inks()
            trio = Model(inks, seed % 7), Place(Palette(inks), wear=seed % 7), Kept(Palette(inks), wear=seed % 7)
            for deed in draws.deeds(inks, 40, most=3 + seed % 10):
                self.do(trio, deed)
                self.check(*trio)

    def test_grafts_and_presses_too(self):
        for seed in range(120):
            draws = Draws(1000 + seed)
            inks = draws.inks()
            wears = [draws.below(7), 6, draws.below(7)]
            trios = [(Model(inks, wear), Place(Palette(inks), wear=wear), Kept(Palette(inks), wear=wear))
                     for wear in wears]
            for _ in range(40):
                trio, other, lot = draws.pick(trios), draws.pick(trios), draws.below(12)
                if lot == 0 and len(trio[0].layers) + len(other[0].layers) < 60:
                    self.assertEqual([one.graft(another) for one, another in zip(trio, other)], [None] * 3)
                elif lot == 1:
                    self.assertEqual([one.press(another) for one, another in zip(trio, other)], [None] * 3)
                else:
                    self.do(trio, draws.deed(inks, most=9))
                for one in trios:
                    self.check(*one)

    def test_copies_too(self):
        for seed in range(20):
            draws = Draws(2000 + seed)
            inks = draws.inks()
            trio = Model(inks, 3), Place(Palette(inks), wear=3), Kept(Palette(inks), wear=3)
            for deed in draws.deeds(inks, 20):
                self.do(trio, deed)
            copies = tuple(one.copied() for one in trio)
            before = told(trio[2])
            for deed in draws.deeds(inks, 20):
                self.do(copies, deed)
                self.check(*copies)
            self.check(*trio)
            self.assertEqual(told(trio[2]), before)

    def test_numbers_of_sixty_figures(self):
        trio = Model(INKS, 3), Place(PALETTE, wear=3), Kept(PALETTE, wear=3)
        for deed in [
            ("lay", "sun", "a", BIG), ("lay", "sun", "b", BIG - 1), ("lay", "sky", "a", 1), ("warm", "sky", BIG),
            ("rub", BIG), ("rub", 1), ("wait", BIG // 4), ("lay", "sun", "a", 3 * BIG), ("wash", "sun", BIG),
        ]:
            self.do(trio, deed)
            self.check(*trio)


class Done(unittest.TestCase):
    def test_behind_deeds_the_handed_one_stays(self):
        kept = made(*LAYERS)
        deeds = [("scrape",), ("wash", "sun", 4), ("lay", "sky", "a", 9)]
        left = done(kept, deeds)
        self.assertIs(type(left), Kept)
        self.assertEqual(told(left), told(made(*LAYERS, *deeds)))
        self.assertEqual(told(kept), told(made(*LAYERS)))
        self.assertEqual(deeds, [("scrape",), ("wash", "sun", 4), ("lay", "sky", "a", 9)])

    def test_without_deeds_it_is_another_one_that_is_equal(self):
        kept = made(*LAYERS)
        left = done(kept, [])
        self.assertEqual(left, kept)
        left.scrape()
        self.assertEqual(told(kept), told(made(*LAYERS)))

    def test_no_deed(self):
        kept = made(*LAYERS, wear=1)
        for thing in no_deeds():
            with self.assertRaises(NoDeed):
                done(kept, [("scrape",), thing])
        self.assertEqual(told(kept), told(made(*LAYERS, wear=1)))

    def test_the_first_that_is_refused(self):
        kept = made(*LAYERS, wear=1)
        for deeds, error in (
            ([("scrape",), ("rub", 1), None], Worn), ([("scrape",), None, ("rub", 1)], NoDeed),
            ([("scrape",), ("scrape",)], Worn), ([("rub", 0), ("rub", 1), ("rub", 1)], NoDeed),
        ):
            with self.assertRaises(error) as caught:
                done(kept, deeds)
            if error is Worn:
                self.assertEqual(caught.exception.at, 0)
            self.assertEqual(told(kept), told(made(*LAYERS, wear=1)))


class ComparingAndCopies(unittest.TestCase):
    def test_equal(self):
        self.assertIs(made(*LAYERS) == made(*LAYERS), True)
        self.assertIs(made(*LAYERS) != made(*LAYERS), False)
        turned = [("lay", "sun", "a", 3), ("lay", "sun", "a", 1)]
        self.assertIs(made(*turned) == made(*turned[::-1]), True)
        self.assertIs(made(*turned, wear=0) == made(turned[0], wear=0), True)
        self.assertIs(Kept(PALETTE) == Kept(Palette(list(INKS))), True)

    def test_unequal(self):
        others_made = [made(*LAYERS, wear=2), made(*LAYERS[1:]), made(*LAYERS, ("lay", "sky", "a", 1)), Kept(PALETTE)]
        others_made += [made(*LAYERS[:3], ("lay", "sun", "blue", 9)), made(*LAYERS[:3], ("lay", "sun", "red", 8))]
        for other in others_made:
            self.assertIs(made(*LAYERS) == other, False)
            self.assertIs(made(*LAYERS) != other, True)
        for inks in UNLIKE:
            self.assertIs(Kept(PALETTE) == Kept(Palette(inks)), False)

    def test_anything_else(self):
        kept = made(*LAYERS)
        for thing in [PALETTE, made(*LAYERS, kind=Place), kept.rows(), 3, True, None, *others()]:
            self.assertIs(kept == thing, False)
            self.assertIs(kept != thing, True)

    def test_a_copy(self):
        kept = made(*LAYERS, wear=1)
        other = kept.copied()
        self.assertEqual((type(other), told(other)), (Kept, told(kept)))
        other.scrape()
        self.assertEqual(told(kept), told(made(*LAYERS, wear=1)))
        other = kept.copied()
        kept.wash("sun", 1)
        self.assertEqual(told(other), told(made(*LAYERS, wear=1)))


class Calls(unittest.TestCase):
    def test_the_interface_is_defined_in_the_file(self):
        for thing in (Kept, done, kept_of):
            self.assertEqual(thing.__module__, kept_file.__name__)
        for name in METHODS:
            self.assertIn(name, vars(Kept))

    def test_by_name(self):
        kept = Kept(palette=PALETTE)
        kept.lay(strength=9, tag="a", ink="sun")
        kept.wait(ticks=1)
        kept.wash(n=1, ink="sun")
        kept.warm(n=2, ink="sun")
        kept.rub(n=3)
        kept.do(deed=("lay", "sky", "b", 2))
        kept.graft(other=Kept(PALETTE))
        kept.press(other=made(("lay", "sky", "c", 2)))
        self.assertEqual((kept.row(ink="sun"), kept.row("sky")), ((("a", 5),), (("b", 2), ("c", 1))))
        self.assertEqual(done(deeds=[("scrape",)], kept=kept).row("sun"), ())
        self.assertEqual(kept_of(place=Place(PALETTE)), Kept(PALETTE))

    def test_asked_again_the_same_is_told(self):
        kept = made(*LAYERS)
        self.assertEqual(told(kept), told(kept))
        self.assertEqual(done(kept, [("scrape",)]), done(kept, [("scrape",)]))


if __name__ == "__main__":
    unittest.main()
