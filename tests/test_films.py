import unittest

from fadeleaf import films
from fadeleaf.films import film, last_change, leaf_film, next_change, picture_ahead
from fadeleaf.kept import Kept, kept_of
from fadeleaf.leaves import Leaf
from fadeleaf.palettes import Palette
from fadeleaf.places import Place
from leafmodel import film_of, what
from leaftools import MOST, PALETTE, Refusing, drawn_pair, made, place_told, told
from model import Draws, behind
from things import BIG, others

HUGE = 10 ** 299


def place_of(*layers, fades, kind=Kept, wear=3):
    """A place with a layer of each ink, by the number of the ink: (number, tag, strength)."""
    palette = Palette([("abcdefgh"[at], fade) for at, fade in enumerate(fades)])
    place = kind(palette, wear=wear)
    for number, tag, strength in layers:
        place.lay("abcdefgh"[number], tag, strength)
    return place


class Films(unittest.TestCase):
    def check(self, place, expected):
        for one in (place, kept_of(place)):
            inks = one.palette().names()
            before = one.wear(), [one.row(ink) for ink in inks]
            found = film(one)
            self.assertEqual(found, expected)
            self.assertEqual([type(thing) for thing in (found, *found)], [list] + [tuple] * len(found))
            self.assertEqual((one.wear(), [one.row(ink) for ink in inks]), before)

    def lines(self, fades, strengths, expected):
        """The film of one layer of each ink: expected are ticks and numbers of inks."""
        place = place_of(*[(at, "red", n) for at, n in enumerate(strengths) if n > 0], fades=fades, kind=Place)
        found = [(tick, None if at is None else ("abcdefgh"[at], "red")) for tick, at in expected]
        self.check(place, found)

    def test_without_layers(self):
        for wear in (0, 3):
            self.check(Place(PALETTE, wear=wear), [(0, None)])

    def test_one_ink(self):
        self.lines([0], [1], [(0, 0)])
        self.lines([1], [1], [(0, 0), (1, None)])
        self.lines([2], [6], [(0, 0), (3, None)])
        self.lines([2], [5], [(0, 0), (3, None)])
        self.lines([2], [7], [(0, 0), (4, None)])
        self.lines([9], [1], [(0, 0), (1, None)])

    def test_lines_that_cross_at_a_whole_tick(self):
        self.lines([1, 3], [4, 8], [(0, 1), (2, 0), (4, None)])
        self.lines([3, 1], [8, 4], [(0, 0), (3, 1), (4, None)])
        self.lines([0, 2], [3, 7], [(0, 1), (2, 0)])
        self.lines([2, 0], [7, 3], [(0, 0), (3, 1)])

    def test_lines_that_cross_between_two_ticks(self):
        self.lines([1, 3], [4, 7], [(0, 1), (2, 0), (4, None)])
        self.lines([3, 1], [7, 4], [(0, 0), (2, 1), (4, None)])
        self.lines([0, 5], [2, 9], [(0, 1), (2, 0)])

    def test_lines_as_strong_now(self):
        self.lines([2, 2], [6, 6], [(0, 0), (3, None)])
        self.lines([2, 1], [6, 6], [(0, 0), (1, 1), (6, None)])
        self.lines([1, 2], [6, 6], [(0, 0), (6, None)])
        self.lines([0, 0], [6, 6], [(0, 0)])
        self.lines([0, 0], [5, 6], [(0, 1)])

    def test_lines_that_end_at_one_tick(self):
        self.lines([2, 1], [6, 3], [(0, 0), (3, None)])
        self.lines([1, 2], [3, 6], [(0, 1), (3, None)])
        self.lines([3, 2], [9, 6], [(0, 0), (3, None)])
        self.lines([3, 2], [8, 6], [(0, 0), (3, None)])
        self.lines([3, 2], [7, 6], [(0, 0), (2, 1), (3, None)])
        self.lines([4, 1], [9, 3], [(0, 0), (3, None)])
        self.lines([1, 4], [3, 9], [(0, 1), (2, 0), (3, None)])

    def test_three_lines_through_one_point(self):
        self.lines([0, 1, 2], [2, 4, 6], [(0, 2), (2, 0)])
        self.lines([2, 1, 0], [6, 4, 2], [(0, 0), (3, 2)])
        self.lines([0, 1, 2], [2, 5, 8], [(0, 2), (3, 0)])
        self.lines([1, 0, 2], [4, 2, 6], [(0, 2), (2, 0), (3, 1)])

    def test_an_ink_that_is_never_strongest(self):
        self.lines([1, 0, 0], [9, 2, 1], [(0, 0), (8, 1)])
        self.lines([2, 1, 0], [20, 9, 8], [(0, 0), (7, 2)])

    def test_each_ink_once(self):
        strengths = [66, 64, 60, 54, 46, 36, 24, 10]
        changes = list(zip([0, 3, 5, 7, 9, 11, 13, 15], range(8)))
        self.lines([7, 6, 5, 4, 3, 2, 1, 0], strengths, changes)
        self.lines([8, 7, 6, 5, 4, 3, 2, 1], [n + 10 for n in strengths], changes + [(20, None)])

    def by_ticks(self, fades, strengths):
        """Ticks and numbers of inks of the film of lines, looked at tick by tick."""
        found = []
        for tick in range(200):
            left = [n - tick * fade for n, fade in zip(strengths, fades)]
            at = left.index(max(left)) if max(left) > 0 else None
            if not found or found[-1][1] != at:
                found.append((tick, at))
        return found

    def test_all_twos_of_small_lines(self):
        for fade in range(4):
            for other_fade in range(4):
                for strength in range(1, 9):
                    for other in range(1, 9):
                        fades, strengths = [fade, other_fade], [strength, other]
                        self.lines(fades, strengths, self.by_ticks(fades, strengths))

    def test_drawn_lines(self):
        for seed in range(150):
            draws = Draws(seed)
            many = 1 + draws.below(8)
            fades = [draws.below(9) for _ in range(many)]
            strengths = [1 + draws.below(90) for _ in range(many)]
            self.lines(fades, strengths, self.by_ticks(fades, strengths))

    def test_the_tag_is_of_the_first(self):
        place = place_of((0, "x", 4), (0, "y", 9), (0, "z", 9), (0, "w", 2), fades=[3], kind=Place)
        self.check(place, [(0, ("a", "z")), (3, None)])

    def test_ticks_of_sixty_and_of_three_hundred_figures(self):
        self.lines([1], [BIG], [(0, 0), (BIG, None)])
        self.lines([3, 0], [3 * HUGE + 5, 4], [(0, 0), (HUGE + 1, 1)])
        self.lines([HUGE, 1], [HUGE * BIG, BIG], [(0, 0), (BIG, None)])
        self.lines([HUGE + 1, HUGE], [HUGE * BIG + BIG, HUGE * BIG + 5], [(0, 0), (BIG - 4, 1), (BIG + 1, None)])
        self.lines([0, HUGE], [1, HUGE], [(0, 1), (1, 0)])

    def test_behind_so_many_ticks_waited_for_that_is_seen(self):
        for seed in range(60):
            draws = Draws(700 + seed)
            inks = draws.inks()
            model = behind(inks, draws.below(7), draws.deeds(inks, 15, most=12))
            place = Place(Palette(inks), wear=model.wear)
            for layer in model.layers:
                if layer.there:
                    place.lay(layer.ink, layer.tag, layer.strength)
            # No strength of these is above 60, so behind as many ticks nothing more is gone.
            self.check(place, film_of(model, 70))
            found = film(place)
            for tick in range(20):
                left = place.copied()
                if tick > 0:
                    left.wait(tick)
                self.assertEqual(what(left.seen()), [one for at, one in found if at <= tick][-1])

    def test_a_told_list_is_the_askers_own(self):
        place = place_of((0, "x", 4), fades=[1])
        found = film(place)
        found.clear()
        self.assertEqual(film(place), [(0, ("a", "x")), (4, None)])
        self.assertIsNot(film(place), film(place))
        self.assertEqual(film(place=place), film(place))

    def test_what_is_done_has_no_bearing_on_what_was_told(self):
        place = place_of((0, "x", 4), fades=[1])
        found = film(place)
        place.scrape()
        self.assertEqual(found, [(0, ("a", "x")), (4, None)])
        self.assertEqual(film(place), [(0, None)])


class LeafFilms(Refusing):
    def leaf(self):
        """Of ten places: sun fades by two, sky doesn't."""
        return made(10, ("lay", 0, 6, "sun", "a", 9), ("lay", 4, 8, "sky", "b", 3), ("lay", 7, 8, "sun", "c", 4))

    def test_picture_ahead(self):
        leaf = self.leaf()
        sun, sky, late = ("sun", "a"), ("sky", "b"), ("sun", "c")
        first = [(6, sun), (1, sky), (1, late), (2, None)]
        for ticks, picture in (
            (0, first), (1, [(6, sun), (2, sky), (2, None)]), (3, [(6, sun), (2, sky), (2, None)]),
            (4, [(4, sun), (4, sky), (2, None)]), (5, [(4, None), (4, sky), (2, None)]),
            (BIG, [(4, None), (4, sky), (2, None)]), (HUGE, [(4, None), (4, sky), (2, None)]),
        ):
            self.assertEqual(picture_ahead(leaf, ticks), picture, ticks)

    def test_film(self):
        leaf = self.leaf()
        sun, sky, late = ("sun", "a"), ("sky", "b"), ("sun", "c")
        self.assertEqual(leaf_film(leaf), [
            (0, [(6, sun), (1, sky), (1, late), (2, None)]), (1, [(6, sun), (2, sky), (2, None)]),
            (4, [(4, sun), (4, sky), (2, None)]), (5, [(4, None), (4, sky), (2, None)]),
        ])
        self.assertEqual((next_change(leaf), last_change(leaf)), (1, 5))

    def test_that_never_changes(self):
        for leaf in (Leaf(PALETTE, 5), Leaf(PALETTE, MOST), made(5, ("lay", 1, 2, "sky", "a", 1))):
            self.assertEqual(len(leaf_film(leaf)), 1)
            self.assertEqual(leaf_film(leaf)[0][0], 0)
            self.assertIsNone(next_change(leaf))
            self.assertEqual(last_change(leaf), 0)
            self.assertIs(type(last_change(leaf)), int)

    def test_without_places(self):
        leaf = made(4, ("lay", 0, 4, "sun", "a", 5))
        leaf.cut(0, 4)
        for one in (leaf, Leaf(PALETTE, 0)):
            self.assertEqual(leaf_film(one), [(0, [])])
            self.assertEqual([picture_ahead(one, ticks) for ticks in (0, 1, HUGE)], [[], [], []])
            self.assertEqual((next_change(one), last_change(one)), (None, 0))

    def test_one_change(self):
        leaf = made(4, ("lay", 1, 3, "sun", "a", 5))
        self.assertEqual(leaf_film(leaf), [(0, [(1, None), (2, ("sun", "a")), (1, None)]), (3, [(4, None)])])
        self.assertEqual((next_change(leaf), last_change(leaf)), (3, 3))

    def test_places_that_change_at_one_tick(self):
        leaf = made(4, ("lay", 0, 2, "sun", "a", 5), ("lay", 2, 4, "sun", "b", 6), ("lay", 3, 4, "sky", "c", 9))
        self.assertEqual([tick for tick, _ in leaf_film(leaf)], [0, 3])
        self.assertEqual(leaf_film(leaf)[1], (3, [(3, None), (1, ("sky", "c"))]))

    def test_neighbours_that_see_the_same_for_a_time(self):
        leaf = made(2, ("lay", 0, 2, "sun", "a", 9), ("lay", 1, 2, "sun", "a", 3), ("lay", 0, 1, "sky", "a", 9))
        leaf.wash(0, 1, "sky", 8)
        self.assertEqual(leaf_film(leaf), [
            (0, [(2, ("sun", "a"))]), (5, [(1, ("sky", "a")), (1, None)]),
        ])
        self.assertEqual(picture_ahead(leaf, 4), [(2, ("sun", "a"))])

    def test_strength_and_wear_have_no_bearing(self):
        leaf = made(3, ("lay", 0, 3, "sky", "a", 9), ("rub", 1, 2, 4))
        self.assertEqual(len(leaf), 3)
        self.assertEqual(leaf_film(leaf), [(0, [(3, ("sky", "a"))])])
        self.assertEqual(picture_ahead(leaf, 0), [(3, ("sky", "a"))])

    def test_very_many_places_and_ticks(self):
        leaf = made(MOST, ("lay", 1, MOST, "sun", "a", HUGE), ("lay", MOST - 1, MOST, "sky", "b", 1))
        self.assertEqual(picture_ahead(leaf, HUGE // 2 - 1), [(1, None), (MOST - 1, ("sun", "a"))])
        self.assertEqual(leaf_film(leaf)[1:], [(HUGE // 2, [(MOST - 1, None), (1, ("sky", "b"))])])
        self.assertEqual((next_change(leaf), last_change(leaf)), (HUGE // 2, HUGE // 2))

    def test_drawn(self):
        for seed in range(60):
            draws = Draws(800 + seed)
            model, leaf = drawn_pair(draws, draws.inks(), most=20)
            before = told(leaf)
            expected = model.film(40)
            found = leaf_film(leaf)
            self.assertEqual(found, expected)
            self.assertEqual(next_change(leaf), expected[1][0] if len(expected) > 1 else None)
            self.assertEqual(last_change(leaf), expected[-1][0])
            for ticks in (0, 1, 2, 3, 5, 9, 30):
                self.assertEqual(picture_ahead(leaf, ticks), model.picture_ahead(ticks))
            self.assertEqual(told(leaf), before)
            for at in range(leaf.many()):
                self.assertEqual(film(leaf.place(at)), film_of(model.places[at], 40))

    def test_what_waiting_on_a_copy_shows(self):
        leaf = made(MOST, ("lay", 5, 9, "sun", "a", BIG), ("lay", 8, 20, "sky", "b", BIG // 2),
                    ("lay", 0, 6, "sun", "c", 9))
        found = leaf_film(leaf)
        self.assertGreater(len(found), 2)
        for tick, picture in found[1:]:
            for ticks, expected in ((tick, picture), (tick - 1, None)):
                left = leaf.copied()
                left.wait(ticks)
                shown = [(many, what(seen)) for many, seen in left.picture()]
                ahead = picture_ahead(leaf, ticks)
                self.assertEqual(shown, ahead)
                if expected is None:
                    self.assertNotEqual(shown, picture)
                else:
                    self.assertEqual(shown, expected)

    def test_no_amount(self):
        for leaf in (self.leaf(), Leaf(PALETTE, 0)):
            for thing in [*others(), -1, -BIG, True, False, "", "1", "sun", b"1", (1,), [1]]:
                self.refused("NoAmount", lambda: picture_ahead(leaf, thing), leaf, who=[thing])

    def test_told_lists_are_the_askers_own(self):
        leaf = self.leaf()
        found, expected = leaf_film(leaf), leaf_film(leaf)
        for _, picture in found:
            picture.clear()
        found.clear()
        picture_ahead(leaf, 0).clear()
        self.assertEqual(leaf_film(leaf), expected)
        self.assertEqual(picture_ahead(leaf, 0), expected[0][1])
        lists = [picture for _, picture in leaf_film(leaf)] + [picture for _, picture in expected]
        self.assertEqual(len({id(one) for one in lists}), len(lists))
        kinds = [(type(pair), type(pair[1]), type(pair[1][0])) for pair in expected]
        self.assertEqual(kinds, [(tuple, list, tuple)] * 4)

    def test_by_name(self):
        leaf = self.leaf()
        self.assertEqual(picture_ahead(ticks=1, leaf=leaf), picture_ahead(leaf, 1))
        self.assertEqual(leaf_film(leaf=leaf), leaf_film(leaf))
        self.assertEqual((next_change(leaf=leaf), last_change(leaf=leaf)), (1, 5))


class Calls(unittest.TestCase):
    def test_the_interface_is_defined_in_the_file(self):
        for thing in (film, picture_ahead, leaf_film, next_change, last_change):
            self.assertEqual(thing.__module__, films.__name__)

    def test_a_place_stays_as_it_is(self):
        place = place_of((0, "x", 4), (0, "y", 3), fades=[1])
        before = place_told(place)
        film(place)
        self.assertEqual(place_told(place), before)


if __name__ == "__main__":
    unittest.main()
