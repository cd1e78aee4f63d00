import unittest
from itertools import combinations, product

from fadeleaf import parting as parting_file
from fadeleaf.deeds import is_deed
from fadeleaf.errors import Unlike
from fadeleaf.kept import Kept, kept_of
from fadeleaf.palettes import Palette
from fadeleaf.parting import does_part, parting
from fadeleaf.places import Place
from model import Draws, Model, behind, do_part
from things import BIG, INKS, UNLIKE, no_deeds, others

PALETTE = Palette(INKS)


def made(*deeds, wear=3, kind=Place, inks=INKS):
    """A place, or a kept one, behind deeds."""
    place = kind(Palette(inks), wear=wear)
    for deed in deeds:
        place.do(deed)
    return place


def of_model(model, kind=Place):
    """A place, or a kept one, with a model's layers."""
    deeds = [("lay", layer.ink, layer.tag, layer.strength) for layer in model.layers if layer.there]
    return made(*deeds, wear=model.wear, kind=kind, inks=model.inks)


def told(place):
    """All that a place, kept or not, tells, as one value."""
    inks = place.palette().names()
    marks = [place.marks(ink) for ink in inks] if isinstance(place, Place) else None
    return (place.wear(), [place.row(ink) for ink in inks], marks, place.seen())


class Parted(unittest.TestCase):
    """That what parting tells of two models parts them, or that nothing could."""

    def check(self, one, other, kinds=((Place, Place),)):
        same = one.wear == other.wear and one.thinned_rows() == other.thinned_rows()
        for kind, other_kind in kinds:
            place, other_place = of_model(one, kind), of_model(other, other_kind)
            before = told(place), told(other_place)
            for deeds in (parting(place, other_place), parting(other_place, place)):
                if same:
                    self.assertIsNone(deeds)
                    continue
                self.assertIs(type(deeds), list)
                self.assertTrue(all(is_deed(deed, place.palette()) for deed in deeds), deeds)
                self.assertIs(do_part(one, other, deeds), True, (one.row("sun"), other.row("sun"), deeds))
                self.assertIs(does_part(place, other_place, deeds), True)
                self.assertIs(does_part(other_place, place, deeds), True)
            self.assertEqual((told(place), told(other_place)), before)
        return same

    def check_rows(self, row, other, wear, inks=INKS):
        models = [Model(inks, wear), Model(inks, wear)]
        for model, layers in zip(models, (row, other)):
            for tag, strength in layers:
                model.lay("sun", tag, strength)
        return self.check(*models)


class Parting(Parted):
    def test_the_same(self):
        deeds = [("lay", "sun", "a", 3), ("lay", "sun", "a", 5), ("lay", "sky", "b", 1)]
        for wear in range(7):
            place = made(*deeds, wear=wear)
            self.assertIsNone(parting(place, place))
            self.assertIsNone(parting(place, made(*deeds, wear=wear)))
            self.assertIsNone(parting(place, made(deeds[1], deeds[2], deeds[0], wear=wear)))
            self.assertIsNone(parting(Place(PALETTE, wear=wear), Kept(PALETTE, wear=wear)))

    def test_what_is_thinned_off_has_no_bearing(self):
        one = [("lay", "sun", "a", 9), ("lay", "sun", "b", 1), ("lay", "sun", "a", 8)]
        other = [("lay", "sun", "c", 2), ("lay", "sun", "a", 8), ("lay", "sun", "a", 9)]
        self.assertIsNone(parting(made(*one, wear=1), made(*other, wear=1)))
        self.assertIs(self.check(behind(INKS, 1, one), behind(INKS, 1, other)), True)
        self.assertIs(self.check(behind(INKS, 2, one), behind(INKS, 2, other)), False)

    def test_wears(self):
        for wear, other_wear in product(range(7), repeat=2):
            for deeds in ([], [("lay", "sky", "a", 5)], [("lay", "sun", "a", BIG), ("lay", "sun", "b", BIG)]):
                same = self.check(behind(INKS, wear, deeds), behind(INKS, other_wear, deeds))
                self.assertIs(same, wear == other_wear)

    def test_seen_by_one_of_them_alone(self):
        self.assertIs(self.check(behind(INKS, 0, [("lay", "sky", "a", 1)]), Model(INKS, 0)), False)

    def test_covered_by_other_inks(self):
        cover = [("lay", "sky", "z", 9), ("lay", "sky", "y", BIG)]
        for strength in (1, 3):
            one = behind(INKS, 0, cover + [("lay", "sun", "a", 2)])
            other = behind(INKS, 0, cover + [("lay", "sun", "a", strength)])
            self.assertIs(self.check(one, other), False)
        self.assertIs(self.check(behind(INKS, 0, cover + [("lay", "sun", "a", 2)]), behind(INKS, 0, cover)), False)

    def test_the_order_alone(self):
        one, other = (("a", 5), ("b", 3)), (("b", 3), ("a", 5))
        self.assertIs(self.check_rows(one, other, 1), False)
        self.assertIs(self.check_rows(one, other, 0), True)
        one, other = (("a", BIG), ("b", 1)), (("b", 1), ("a", BIG))
        self.assertIs(self.check_rows(one, other, 6), False)

    def test_the_order_with_layers_as_strong_between(self):
        one, other = (("a", 5), ("c", 3), ("b", 3)), (("c", 3), ("b", 3), ("a", 5))
        self.assertIs(self.check_rows(one, other, 2), False)
        one, other = (("a", 5), ("b", 3), ("b", 3)), (("b", 3), ("b", 3), ("a", 5))
        self.assertIs(self.check_rows(one, other, 2), False)
        self.assertIs(self.check_rows(one, other, 1), False)

    def test_all_twos_of_short_rows(self):
        layers = list(product("ab", (1, 2)))
        rows = [row for many in range(4) for row in product(layers, repeat=many)]
        for wear in range(3):
            same = [self.check_rows(one, other, wear) for one, other in combinations(rows, 2)]
            self.assertTrue(any(same))

    def test_all_orders_of_the_same_layers(self):
        inks = [("sun", 1)]
        for many, tags, strengths in ((3, "abc", (1, 2, 3)), (4, "ab", (1, 2)), (4, "abc", (2, 1))):
            alike = {}
            for row in product(product(tags, strengths), repeat=many):
                model = behind(inks, many, [("lay", "sun", *layer) for layer in row])
                by_rank = tuple(layer for _, layer in sorted((model.rank(at), row[at]) for at in range(many)))
                alike.setdefault(by_rank, {})[model.thinned_row("sun")] = row
            for rows in alike.values():
                for one, other in combinations(rows.values(), 2):
                    self.assertIs(self.check_rows(one, other, many - 1, inks), False)

    def test_drawn_of_any_kinds(self):
        kinds = list(product((Place, Kept), repeat=2))
        told_same = 0
        for seed in range(150):
            draws = Draws(seed)
            inks = draws.inks()
            wear = draws.below(7)
            one = behind(inks, wear, draws.deeds(inks, 14, most=3))
            other = behind(inks, wear, draws.deeds(inks, 14, most=3))
            other.wear = draws.pick([one.wear, one.wear, other.wear])
            told_same += self.check(one, other, kinds)
        self.assertLess(told_same, 50)

    def test_drawn_with_one_layer_moved_or_changed(self):
        counts = {True: 0, False: 0}
        for seed in range(200):
            draws = Draws(3000 + seed)
            inks = draws.inks()
            layers = [deed for deed in draws.deeds(inks, 14, most=4) if deed[0] == "lay"]
            moved = list(layers)
            if moved:
                moved.insert(draws.below(len(layers)), moved.pop(draws.below(len(layers))))
            wear = draws.below(7)
            counts[self.check(behind(inks, wear, layers), behind(inks, wear, moved), [(Place, Kept)])] += 1
        self.assertGreater(min(counts.values()), 20)

    def test_where_none_is_told_no_deeds_part(self):
        for seed in range(60):
            draws = Draws(4000 + seed)
            inks = draws.inks()
            one = behind(inks, draws.below(4), draws.deeds(inks, 12))
            other = Model(inks, one.wear)
            for ink, _ in inks:
                for tag, strength in one.thinned_row(ink):
                    other.lay(ink, tag, strength)
            self.assertIsNone(parting(of_model(one), of_model(other)))
            for _ in range(5):
                self.assertIs(do_part(one, other, draws.deeds(inks, 8)), False)

    def test_a_told_list_is_the_askers_own(self):
        strong, weak = ("lay", "sun", "a", 5), ("lay", "sun", "b", 3)
        twos = [
            (made(("lay", "sun", "a", 5)), made(("lay", "sky", "a", 5), ("lay", "sun", "a", 4))),
            (made(wear=1), made(wear=2)),
            (made(strong, weak), made(weak, strong)),
        ]
        for one, other in twos:
            deeds = parting(one, other)
            before = list(deeds)
            deeds.clear()
            self.assertEqual(parting(one, other), before)
            self.assertIsNot(parting(one, other), parting(one, other))


class DoesPart(unittest.TestCase):
    def check(self, one, other, deeds, expected):
        for kinds in product((Place, Kept), repeat=2):
            places = [made(*done, wear=wear, kind=kind) for (done, wear), kind in zip((one, other), kinds)]
            before = [told(place) for place in places]
            handed = list(deeds)
            self.assertIs(does_part(*places, deeds), expected, deeds)
            self.assertIs(does_part(*places[::-1], deeds), expected, deeds)
            self.assertEqual([told(place) for place in places], before)
            self.assertEqual(deeds, handed)

    def test_without_any(self):
        red, blue = ([("lay", "sun", "red", 5)], 3), ([("lay", "sun", "blue", 5)], 3)
        self.check(red, blue, [], True)
        self.check(red, red, [], False)
        self.check(red, ([], 3), [], True)
        self.check(red, ([("lay", "sun", "red", 4)], 3), [], True)
        self.check(red, ([("lay", "sky", "red", 5)], 3), [], True)
        self.check(red, (red[0], 0), [], False)

    def test_what_is_seen_behind_all(self):
        one = ([("lay", "sun", "a", 5), ("lay", "sun", "b", 3)], 3)
        other = ([("lay", "sun", "b", 3), ("lay", "sun", "a", 5)], 3)
        self.check(one, other, [("rub", 2)], True)
        self.check(one, other, [("rub", 1)], False)
        self.check(one, other, [("rub", 2), ("scrape",)], True)
        self.check(one, other, [("rub", 2), ("scrape",), ("scrape",)], False)
        self.check(one, other, [("rub", 2), ("lay", "sky", "a", 9)], False)

    def test_the_last_is_refused_by_one_alone(self):
        layers = [("lay", "sun", "a", 5), ("lay", "sky", "a", 5)]
        self.check((layers, 1), (layers, 2), [("scrape",), ("scrape",)], True)
        self.check((layers, 1), (layers, 2), [("scrape",), ("rub", 1)], True)
        self.check((layers, 1), (layers, 2), [("scrape",), ("wait", 1), ("rub", 1)], True)
        self.check((layers, 0), ([], 0), [("scrape",)], True)

    def test_one_ahead_of_the_last_is_refused(self):
        layers = [("lay", "sun", "a", 5), ("lay", "sun", "b", 5)]
        self.check((layers, 1), (layers, 2), [("scrape",), ("scrape",), ("wait", 1)], False)
        self.check((layers, 0), (layers[::-1], 0), [("scrape",), ("wait", 1)], False)
        self.check((layers, 0), ([], 0), [("scrape",), ("lay", "sun", "a", 9)], False)
        self.check((layers, 1), (layers, 2), [("scrape",), ("scrape",), ("scrape",)], False)

    def test_both_refuse(self):
        red, blue = [("lay", "sun", "red", 5)], [("lay", "sun", "blue", 5)]
        self.check((red, 0), (blue, 0), [("scrape",)], False)
        self.check((red, 0), (blue, 0), [("lay", "sun", "a", 1), ("rub", 1)], False)
        self.check((red, 0), (blue, 0), [("rub", 1), ("wait", 1)], False)

    def test_of_anything(self):
        red, blue = ([("lay", "sun", "red", 5)], 0), ([("lay", "sun", "blue", 5)], 3)
        for thing in [True, False, 0, "", "scrape", (), (("scrape",),), {}, {("scrape",): 1}, ("scrape",), None]:
            self.assertIs(does_part(made(*red[0]), made(*blue[0]), thing), False)
        for thing in others():
            if not isinstance(thing, list) or len(thing) > 0:
                self.assertIs(does_part(made(*red[0]), made(*blue[0]), thing), False)
        for thing in no_deeds():
            for deeds in ([thing], [("wait", 1), thing], [thing, ("wait", 1)], [("scrape",), thing]):
                self.assertIs(does_part(made(*red[0], wear=0), made(*blue[0]), deeds), False)

    def test_one_and_the_same(self):
        for kind in (Place, Kept):
            place = made(("lay", "sun", "a", 5), wear=0, kind=kind)
            for deeds in ([], [("scrape",)], [("wait", 1)]):
                self.assertIs(does_part(place, place, deeds), False)


class Palettes(unittest.TestCase):
    def test_unlike(self):
        for inks in UNLIKE:
            for kind, other_kind in product((Place, Kept), repeat=2):
                one = made(("lay", "sun", "a", 4), kind=kind)
                other = made(("lay", "sun", "a", 4), wear=0, inks=inks, kind=other_kind)
                before = told(one), told(other)
                for ask in (
                    lambda: parting(one, other), lambda: parting(other, one), lambda: does_part(one, other, []),
                    lambda: does_part(other, one, [("scrape",)]), lambda: does_part(one, other, None),
                ):
                    with self.assertRaises(Unlike):
                        ask()
                self.assertEqual((told(one), told(other)), before)

    def test_of_another_palette_that_is_equal(self):
        place = made(("lay", "sun", "a", 4), inks=list(INKS))
        self.assertIsNone(parting(place, made(("lay", "sun", "a", 4))))
        self.assertIs(does_part(place, kept_of(made()), []), True)


class Calls(unittest.TestCase):
    def test_the_interface_is_defined_in_the_file(self):
        for name in ("parting", "does_part"):
            self.assertEqual(getattr(parting_file, name).__module__, "fadeleaf.parting")

    def test_by_name(self):
        one, other = made(("lay", "sun", "a", 4)), made(("lay", "sun", "a", 3))
        deeds = parting(other=other, one=one)
        self.assertIs(does_part(deeds=deeds, other=other, one=one), True)
        self.assertEqual(parting(one, other), deeds)


if __name__ == "__main__":
    unittest.main()
