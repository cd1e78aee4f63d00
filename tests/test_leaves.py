import unittest

from fadeleaf import leaves
from fadeleaf.deeds import is_deed
from fadeleaf.kept import Kept, done
from fadeleaf.leaves import Leaf, leaf_parting
from fadeleaf.palettes import Palette
from fadeleaf.parting import does_part
from leafmodel import LeafModel
from leaftools import (
    MOST, PALETTE, Refusing, both, both_do, drawn_pair, drawn_range, leaf_of, made, of_model, place_told, striped, told,
)
from model import Draws
from things import BIG, INKS, UNLIKE, no_amounts, no_names, no_numbers, no_wears, others

METHODS = (
    "palette", "many", "runs", "place", "picture", "lay", "wash", "warm", "scrape", "rub", "wait", "cut", "insert",
    "copied", "__eq__", "__len__",
)
BARE = ((), ())
RED = ("lay", 2, 5, "sun", "red", 4)


def rows(sun=(), sky=()):
    """The rows of the inks of a place, as its runs tell them."""
    return (tuple(sun), tuple(sky))


class Making(Refusing):
    def test_how_many(self):
        for many in (0, 1, 2, 7, MOST - 1, MOST):
            runs = [(many, 3, BARE)] if many > 0 else []
            picture = [(many, None)] if many > 0 else []
            self.assertEqual(told(Leaf(PALETTE, many)), (INKS, many, runs, picture, len(runs)))

    def test_wears(self):
        for wear in range(7):
            self.assertEqual(Leaf(PALETTE, 2, wear=wear).runs(), [(2, wear, BARE)])

    def test_no_places(self):
        for thing in [MOST + 1, *no_numbers(MOST)]:
            self.refused("NoPlaces", lambda: Leaf(PALETTE, thing))
            self.refused("NoPlaces", lambda: Leaf(PALETTE, thing, wear=7))

    def test_no_wear(self):
        for thing in no_wears():
            for many in (0, 1, MOST):
                self.refused("NoWear", lambda: Leaf(PALETTE, many, wear=thing))

    def test_wear_by_its_name_alone(self):
        with self.assertRaises(TypeError):
            Leaf(PALETTE, 1, 3)

    def test_palette(self):
        self.assertEqual(Leaf(PALETTE, 1).palette(), PALETTE)


class Telling(Refusing):
    def test_runs_and_places(self):
        leaf = made(10, RED)
        red = rows([("red", 4)])
        self.assertEqual(leaf.runs(), [(2, 3, BARE), (3, 3, red), (5, 3, BARE)])
        for at in range(10):
            kept = leaf.place(at)
            self.assertIs(type(kept), Kept)
            self.assertEqual(place_told(kept)[1:3], (3, red if 2 <= at < 5 else BARE))
        self.assertEqual((leaf.many(), len(leaf)), (10, 3))

    def test_runs_join_again(self):
        leaf = made(10, RED, ("wash", 0, 10, "sun", 4))
        self.assertEqual(leaf.runs(), [(10, 3, BARE)])
        leaf = made(10, RED, ("lay", 0, 2, "sun", "red", 4), ("lay", 5, 10, "sun", "red", 4))
        self.assertEqual(leaf.runs(), [(10, 3, rows([("red", 4)]))])
        leaf = made(4, ("lay", 0, 2, "sun", "a", 3), ("lay", 0, 4, "sun", "a", 5), ("lay", 2, 4, "sun", "a", 3))
        self.assertEqual(leaf.runs(), [(4, 3, rows([("a", 3), ("a", 5)]))])

    def test_runs_of_wears_alone(self):
        leaf = striped(3, 3, 2, 3, 0, 0)
        self.assertEqual(leaf.runs(), [(2, 3, BARE), (1, 2, BARE), (1, 3, BARE), (2, 0, BARE)])
        self.assertEqual(leaf.picture(), [(6, None)])

    def test_picture(self):
        leaf = made(10, RED, ("lay", 4, 8, "sky", "red", 4), ("lay", 7, 8, "sky", "a", 2))
        self.assertEqual(leaf.picture(), [(2, None), (3, ("sun", "red", 4)), (3, ("sky", "red", 4)), (2, None)])
        self.assertEqual(len(leaf), 6)

    def test_kinds(self):
        leaf = made(10, RED)
        for pairs in (leaf.runs(), leaf.picture()):
            self.assertEqual([type(thing) for thing in (pairs, *pairs)], [list] + [tuple] * 3)
        many, wear, told_rows = leaf.runs()[1]
        self.assertEqual([type(thing) for thing in (told_rows, *told_rows, told_rows[0][0])], [tuple] * 4)

    def test_no_such_place(self):
        for leaf in (made(10, RED), Leaf(PALETTE, 1), Leaf(PALETTE, MOST), Leaf(PALETTE, 0)):
            for thing in no_numbers(leaf.many() - 1):
                self.refused("NoPlaces", lambda: leaf.place(thing), leaf)
        self.assertEqual(Leaf(PALETTE, MOST).place(MOST - 1), Kept(PALETTE))

    def test_a_told_place_is_another_one(self):
        leaf = made(10, RED)
        before = told(leaf)
        kept = leaf.place(3)
        kept.scrape()
        leaf.place(4).lay("sun", "a", 9)
        self.assertEqual(told(leaf), before)
        kept = leaf.place(3)
        leaf.wash(0, 10, "sun", 4)
        self.assertEqual(kept.row("sun"), (("red", 4),))

    def test_told_lists_are_the_askers_own(self):
        leaf = made(10, RED)
        before = told(leaf)
        for ask in (leaf.runs, leaf.picture):
            one = ask()
            one.clear()
            ask().append((1, None))
            self.assertIsNot(ask(), ask())
        self.assertEqual(told(leaf), before)


class Deeds(Refusing):
    def test_each(self):
        sun, sky = (("red", 4), ("a", 6)), (("b", 5),)
        base = [("lay", 0, 6, "sun", "red", 4), ("lay", 0, 6, "sun", "a", 6), ("lay", 0, 6, "sky", "b", 5)]
        for deed, wear, behind in [
            (("lay", 1, 4, "sun", "c", 1), 3, rows(sun + (("c", 1),), sky)),
            (("wash", 1, 4, "sun", 4), 3, rows([("a", 2)], sky)),
            (("warm", 1, 4, "sky", BIG), 3, rows(sun, [("b", 5 + BIG)])),
            (("scrape", 1, 4), 2, rows([("red", 4)], sky)),
            (("rub", 1, 4, 5), 2, rows([("red", 4), ("a", 1)], sky)),
        ]:
            leaf = made(6, *base)
            word, *items = deed
            self.assertIsNone(getattr(leaf, word)(*items))
            same = (3, rows(sun, sky))
            self.assertEqual(leaf.runs(), [(1, *same), (3, wear, behind), (2, *same)])

    def test_wait_is_of_all(self):
        leaf = made(6, ("lay", 0, 6, "sun", "a", 5), ("lay", 2, 4, "sky", "a", 1))
        self.assertIsNone(leaf.wait(2))
        one = rows([("a", 1)])
        self.assertEqual(leaf.runs(), [(2, 3, one), (2, 3, rows([("a", 1)], [("a", 1)])), (2, 3, one)])
        leaf.wait(BIG)
        self.assertEqual(leaf.picture(), [(2, None), (2, ("sky", "a", 1)), (2, None)])

    def test_begin_and_end(self):
        for begin, end in ((0, 0), (0, 10), (0, 1), (9, 10), (10, 10), (5, 5), (3, 7)):
            leaf = made(10, ("lay", begin, end, "sun", "a", 1))
            seen = [leaf.place(at).seen() for at in range(10)]
            self.assertEqual(seen, [("sun", "a", 1) if begin <= at < end else None for at in range(10)])

    def test_no_places_meant(self):
        leaf = made(10, RED, wear=0)
        before = told(leaf)
        for at in (0, 2, 3, 5, 10):
            for deed in (("lay", at, at, "sun", "a", 1), ("wash", at, at, "sun", 9), ("warm", at, at, "sky", 1),
                         ("scrape", at, at), ("rub", at, at, 1)):
                getattr(leaf, deed[0])(*deed[1:])
                self.assertEqual(told(leaf), before)

    def test_of_very_many(self):
        leaf = made(MOST, ("lay", 1, MOST - 1, "sun", "a", BIG), ("lay", MOST // 2, MOST, "sky", "b", 2))
        leaf.rub(MOST // 3, MOST - 7, BIG - 1)
        self.assertEqual([many for many, _, _ in leaf.runs()],
                         [1, MOST // 3 - 1, MOST // 2 - MOST // 3, MOST // 2 - 7, 6, 1])
        self.assertEqual([seen for _, seen in leaf.picture()],
                         [None, ("sun", "a", BIG), ("sun", "a", 1), ("sky", "b", 2), ("sun", "a", BIG),
                          ("sky", "b", 2)])
        leaf.wait(10 ** 300)
        self.assertEqual(leaf.picture(), [(MOST // 2, None), (MOST - MOST // 2, ("sky", "b", 2))])

    def test_done_by_places_and_by_names(self):
        leaf = Leaf(palette=PALETTE, many=6, wear=2)
        leaf.lay(strength=9, tag="a", ink="sun", end=4, begin=1)
        leaf.wash(n=1, ink="sun", end=2, begin=1)
        leaf.warm(n=1, ink="sun", end=4, begin=3)
        leaf.rub(n=2, end=4, begin=3)
        leaf.scrape(end=3, begin=2)
        leaf.wait(ticks=1)
        self.assertEqual(leaf.picture(), [(1, None), (1, ("sun", "a", 6)), (1, None), (1, ("sun", "a", 6)), (2, None)])
        self.assertEqual(leaf.place(at=2).wear(), 1)
        out = leaf.cut(end=2, begin=0)
        leaf.insert(other=out, at=0)
        self.assertEqual((leaf.many(), leaf_parting(other=leaf, one=leaf)), (6, None))


class Refusals(Refusing):
    """What is refused of deeds: with which class, in which order, and that nothing is changed."""

    def calls(self, leaf, begin, end, ink="sun", tag="a", n=1):
        return [
            lambda: leaf.lay(begin, end, ink, tag, n), lambda: leaf.wash(begin, end, ink, n),
            lambda: leaf.warm(begin, end, ink, n), lambda: leaf.rub(begin, end, n), lambda: leaf.scrape(begin, end),
            lambda: leaf.cut(begin, end),
        ]

    def test_no_places_ahead_of_all_else(self):
        for leaf in (made(10, RED, wear=0), Leaf(PALETTE, 0), Leaf(PALETTE, MOST)):
            many = leaf.many()
            pairs = [(thing, many) for thing in no_numbers(many)] + [(0, thing) for thing in no_numbers(many)]
            pairs += [(1, 0), (many, many - 1), (-1, many), (0, many + 1), (many + 1, many + 1), (-1, -1), (-1, 0)]
            for begin, end in pairs:
                for call in self.calls(leaf, begin, end) + self.calls(leaf, begin, end, "moon", "", 0):
                    self.refused("NoPlaces", call, leaf)

    def test_no_ink_no_tag_no_amount_also_where_no_places_are_meant(self):
        for leaf, begin, end in ((made(10, RED, wear=0), 2, 5), (made(10, RED), 3, 3), (Leaf(PALETTE, 0), 0, 0)):
            for thing in ["moon", *no_names(), ("sun", 2)]:
                for call in self.calls(leaf, begin, end, thing, "", 0)[:3]:
                    self.refused("NoInk", call, leaf, who=[thing])
            for thing in no_names():
                self.refused("NoTag", lambda: leaf.lay(begin, end, "sun", thing, 0), leaf, who=[thing])
            for thing in no_amounts():
                for call in self.calls(leaf, begin, end, n=thing)[:4]:
                    self.refused("NoAmount", call, leaf, who=[thing])
                self.refused("NoAmount", lambda: leaf.wait(thing), leaf, who=[thing])

    def test_worn_with_the_first_place_that_refuses(self):
        wears = (2, 0, 1, 0, 0, 3)
        for begin in range(6):
            for end in range(begin, 7):
                leaf = striped(*wears)
                leaf.lay(0, 6, "sun", "a", 5)
                worn = [at for at in range(begin, end) if wears[at] == 0]
                if worn:
                    for call in (lambda: leaf.scrape(begin, end), lambda: leaf.rub(begin, end, 1)):
                        self.refused("Worn", call, leaf, at=[worn[0]])
                    continue
                leaf.scrape(begin, end)
                for at in range(6):
                    scraped = begin <= at < end
                    self.assertEqual(leaf.place(at).wear(), wears[at] - scraped)
                    self.assertEqual(leaf.place(at).seen(), None if scraped else ("sun", "a", 5))

    def test_bare_ones_ahead_of_worn_ones(self):
        leaf = striped(0, 0, 1, 0, 0, 0)
        leaf.lay(2, 6, "sun", "a", 5)
        leaf.wash(3, 4, "sun", 5)
        self.refused("Worn", lambda: leaf.scrape(0, 6), leaf, at=[4])
        self.refused("Worn", lambda: leaf.rub(1, 6, 9), leaf, at=[4])
        self.refused("Worn", lambda: leaf.scrape(5, 6), leaf, at=[5])
        leaf.scrape(0, 4)
        self.assertEqual(leaf.runs(), [(4, 0, BARE), (2, 0, rows([("a", 5)]))])
        leaf.wash(0, 6, "sun", 5)
        leaf.scrape(0, 6)
        leaf.rub(0, 6, 1)
        self.assertEqual(leaf.runs(), [(6, 0, BARE)])

    def test_worn_within_a_run_of_very_many(self):
        leaf = made(MOST, ("lay", 10, MOST, "sun", "a", 5), wear=0)
        self.refused("Worn", lambda: leaf.rub(0, MOST, 1), leaf, at=[10])
        self.refused("Worn", lambda: leaf.rub(MOST - 2, MOST, 1), leaf, at=[MOST - 2])

    def test_no_amount_ahead_of_worn(self):
        leaf = made(10, RED, wear=0)
        self.refused("NoAmount", lambda: leaf.rub(0, 10, 0), leaf, who=[0])


class CutAndInserted(Refusing):
    def test_cut(self):
        for begin, end in ((0, 0), (0, 10), (2, 5), (3, 4), (0, 3), (4, 10), (10, 10)):
            leaf = made(10, RED, ("lay", 4, 8, "sky", "a", 2))
            seen = [leaf.place(at).seen() for at in range(10)]
            out = leaf.cut(begin, end)
            self.assertIs(type(out), Leaf)
            self.assertEqual(out.palette(), PALETTE)
            self.assertEqual([out.place(at).seen() for at in range(out.many())], seen[begin:end])
            self.assertEqual([leaf.place(at).seen() for at in range(leaf.many())], seen[:begin] + seen[end:])
            self.assertEqual((leaf.many(), out.many()), (10 - end + begin, end - begin))

    def test_cut_joins_what_is_alike(self):
        leaf = made(10, RED)
        self.assertEqual(leaf.cut(2, 5).runs(), [(3, 3, rows([("red", 4)]))])
        self.assertEqual(leaf.runs(), [(7, 3, BARE)])

    def test_neither_of_the_cut_ones_knows_of_the_other(self):
        leaf = made(10, RED)
        out = leaf.cut(3, 7)
        out.lay(0, 4, "sky", "a", 9)
        self.assertEqual(leaf.runs(), [(2, 3, BARE), (1, 3, rows([("red", 4)])), (3, 3, BARE)])
        leaf.wash(0, 6, "sun", 4)
        self.assertEqual(out.place(0).rows(), rows([("red", 4)], [("a", 9)]))

    def test_inserted(self):
        for at in range(5):
            leaf, other = made(4, ("lay", 0, 2, "sun", "a", 1)), made(3, ("lay", 1, 2, "sky", "b", 2), wear=1)
            before = told(other)
            self.assertIsNone(leaf.insert(at, other))
            places = [("sun", "a", 1)] * 2 + [None] * 2
            places[at:at] = [None, ("sky", "b", 2), None]
            self.assertEqual([leaf.place(one).seen() for one in range(7)], places)
            self.assertEqual([leaf.place(one).wear() for one in range(at, at + 3)], [1, 1, 1])
            self.assertEqual(told(other), before)
            leaf.wash(0, 7, "sky", 1)
            self.assertEqual(told(other), before)
            other.wash(0, 3, "sky", 2)
            self.assertEqual(leaf.place(at + 1).seen(), ("sky", "b", 1))

    def test_inserted_joins_what_is_alike(self):
        leaf = made(4, ("lay", 0, 2, "sun", "a", 1))
        leaf.insert(1, made(5, ("lay", 0, 5, "sun", "a", 1)))
        self.assertEqual(leaf.runs(), [(7, 3, rows([("a", 1)])), (2, 3, BARE)])

    def test_inserted_without_places(self):
        leaf = made(4, ("lay", 0, 2, "sun", "a", 1))
        before = told(leaf)
        for at in range(5):
            leaf.insert(at, Leaf(PALETTE, 0, wear=0))
            self.assertEqual(told(leaf), before)
        empty = Leaf(PALETTE, 0)
        empty.insert(0, leaf)
        self.assertEqual(told(empty), before)

    def test_inserted_into_itself(self):
        for at in range(4):
            leaf = made(3, ("lay", 0, 1, "sun", "a", 1), ("lay", 1, 2, "sun", "b", 2))
            places = [("sun", "a", 1), ("sun", "b", 2), None]
            leaf.insert(at, leaf)
            self.assertEqual([leaf.place(one).seen() for one in range(6)], places[:at] + places + places[at:])

    def test_as_many_as_can_be(self):
        leaf = made(MOST - 2, ("lay", 0, 1, "sun", "a", 1))
        leaf.insert(MOST - 2, Leaf(PALETTE, 2, wear=0))
        self.assertEqual(leaf.runs(), [(1, 3, rows([("a", 1)])), (MOST - 3, 3, BARE), (2, 0, BARE)])
        half = Leaf(PALETTE, MOST // 2)
        half.insert(7, half)
        self.assertEqual(half, Leaf(PALETTE, MOST))

    def test_too_many(self):
        leaf = made(MOST - 2, RED)
        for other in (Leaf(PALETTE, 3), Leaf(PALETTE, MOST), leaf):
            for at in (0, 5, MOST - 2):
                self.refused("NoPlaces", lambda: leaf.insert(at, other), leaf, other)
        full = Leaf(PALETTE, MOST)
        self.refused("NoPlaces", lambda: full.insert(MOST, Leaf(PALETTE, 1)), full)
        full.insert(MOST, Leaf(PALETTE, 0))

    def test_refused_in_order(self):
        leaf = made(10, RED)
        for inks in UNLIKE:
            unlike = Leaf(Palette(inks), MOST)
            for thing in no_numbers(10):
                self.refused("NoPlaces", lambda: leaf.insert(thing, unlike), leaf, unlike)
            for at in (0, 10):
                self.refused("Unlike", lambda: leaf.insert(at, unlike), leaf, unlike)
        for thing in no_numbers(10):
            self.refused("NoPlaces", lambda: leaf.insert(thing, Leaf(PALETTE, 1)), leaf)


class ComparingAndCopies(unittest.TestCase):
    def test_equal(self):
        self.assertIs(made(10, RED) == made(10, RED), True)
        self.assertIs(made(10, RED) != made(10, RED), False)
        self.assertIs(made(10, RED, ("wash", 0, 10, "sun", 4)) == Leaf(PALETTE, 10), True)
        turned = [("lay", 0, 3, "sun", "a", 3), ("lay", 0, 3, "sun", "a", 1)]
        self.assertIs(made(3, *turned) == made(3, *turned[::-1]), True)
        self.assertIs(Leaf(PALETTE, 3) == Leaf(Palette(list(INKS)), 3), True)

    def test_without_places(self):
        self.assertIs(Leaf(PALETTE, 0, wear=1) == Leaf(PALETTE, 0, wear=6), True)
        leaf = made(3, ("lay", 0, 3, "sun", "a", 1))
        leaf.cut(0, 3)
        self.assertIs(leaf == Leaf(PALETTE, 0), True)
        for inks in UNLIKE:
            self.assertIs(Leaf(Palette(inks), 0) == leaf, False)

    def test_unequal(self):
        others_made = [
            made(10, RED, wear=2), made(11, RED), made(10), made(10, ("lay", 2, 6, "sun", "red", 4)),
            made(10, ("lay", 2, 5, "sky", "red", 4)), made(10, ("lay", 2, 5, "sun", "a", 4)),
            made(10, ("lay", 2, 5, "sun", "red", 5)), made(10, RED, ("lay", 9, 10, "sky", "a", 1)),
        ]
        for other in others_made:
            self.assertIs(made(10, RED) == other, False)
            self.assertIs(made(10, RED) != other, True)
        for inks in UNLIKE:
            self.assertIs(Leaf(PALETTE, 10) == Leaf(Palette(inks), 10), False)

    def test_anything_else(self):
        for leaf in (made(10, RED), Leaf(PALETTE, 0)):
            for thing in [PALETTE, leaf.runs(), Kept(PALETTE), told(leaf), 0, 3, True, False, None, "", *others()]:
                self.assertIs(leaf == thing, False)
                self.assertIs(leaf != thing, True)

    def test_a_copy(self):
        before = told(made(10, RED))
        for deed in (RED, ("wash", 0, 10, "sun", 1), ("scrape", 0, 10), ("rub", 0, 10, 1), ("wait", 1), ("cut", 0, 3),
                     ("warm", 0, 10, "sun", 1), ("insert", 0, Leaf(PALETTE, 3))):
            leaf = made(10, RED)
            other = leaf.copied()
            self.assertEqual((type(other), told(other)), (Leaf, before))
            getattr(other, deed[0])(*deed[1:])
            self.assertEqual(told(leaf), before)
            self.assertNotEqual(told(other), before)
            other = leaf.copied()
            getattr(leaf, deed[0])(*deed[1:])
            self.assertEqual(told(other), before)

    def test_the_handed_palette_stays(self):
        palette = Palette(list(INKS))
        leaf = Leaf(palette, 4)
        leaf.palette().inks().clear()
        self.assertEqual((palette.inks(), leaf.palette().inks()), (INKS, INKS))


class Parting(Refusing):
    def check(self, one, other, expected):
        for first, second in ((one, other), (other, one)):
            before = told(first), told(second)
            parted = leaf_parting(first, second)
            self.assertEqual((told(first), told(second)), before)
            self.assertIs(first == second, parted is None)
            if expected is None:
                self.assertIsNone(parted)
                continue
            at, deeds = parted
            self.assertEqual((type(parted), type(deeds), at), (tuple, list, expected))
            self.assertTrue(all(is_deed(deed, first.palette()) for deed in deeds))
            self.assertIs(does_part(first.place(at), second.place(at), deeds), True)

    def test_nowhere(self):
        for leaf in (made(10, RED), Leaf(PALETTE, 0), Leaf(PALETTE, MOST)):
            self.check(leaf, leaf, None)
            self.check(leaf, leaf.copied(), None)
        self.check(Leaf(PALETTE, 0, wear=0), Leaf(PALETTE, 0, wear=5), None)

    def test_the_first_unlike_place(self):
        leaf = made(10, RED)
        for at in range(10):
            other = leaf.copied()
            other.lay(at, 10, "sky", "a", 1)
            self.check(leaf, other, at)
        self.check(leaf, Leaf(PALETTE, 10), 2)
        self.check(leaf, made(10, RED, wear=4), 0)
        self.check(Leaf(PALETTE, MOST), made(MOST, ("lay", MOST - 1, MOST, "sun", "a", 1)), MOST - 1)

    def test_in_the_midst_of_runs_of_both(self):
        one = made(10, ("lay", 0, 7, "sun", "a", 4), ("lay", 7, 10, "sky", "b", 1))
        other = made(10, ("lay", 0, 6, "sun", "a", 4), ("lay", 6, 10, "sky", "b", 1))
        self.check(one, other, 6)

    def test_the_order_alone(self):
        layers = [("lay", 3, 5, "sun", "a", 5), ("lay", 3, 5, "sun", "b", 3)]
        self.check(made(9, *layers), made(9, *layers[::-1]), 3)

    def test_a_told_list_is_the_askers_own(self):
        one, other = made(10, RED), made(10, ("lay", 2, 5, "sun", "red", 4), ("lay", 2, 5, "sky", "a", 1))
        told_once = leaf_parting(one, other)
        expected = (told_once[0], list(told_once[1]))
        told_once[1].clear()
        self.assertEqual(leaf_parting(one, other), expected)
        self.assertEqual(expected[0], 2)
        self.assertNotEqual(expected[1], [])

    def test_unlike(self):
        empty = Leaf(PALETTE, 0)
        for inks in UNLIKE:
            self.refused("Unlike", lambda: leaf_parting(empty, Leaf(Palette(inks), 0)), empty)
            self.refused("Unlike", lambda: leaf_parting(Leaf(Palette(inks), 0), empty), empty)
        leaf = made(10, RED)
        unlike = [Leaf(Palette(inks), 10) for inks in UNLIKE]
        for other in unlike + [Leaf(PALETTE, many) for many in (0, 9, 11, MOST)]:
            self.refused("Unlike", lambda: leaf_parting(leaf, other), leaf, other)
            self.refused("Unlike", lambda: leaf_parting(other, leaf), leaf, other)

    def test_drawn(self):
        counts = {True: 0, False: 0}
        for seed in range(80):
            draws = Draws(500 + seed)
            inks = draws.inks()
            one, leaf = drawn_pair(draws, inks)
            other, other_leaf = one.copied(), leaf.copied()
            for _ in range(draws.below(3)):
                both_do(other, other_leaf, *drawn_range(draws, len(other.places)), draws.deed(inks))
            at = one.parting_place(other)
            self.check(leaf, other_leaf, at)
            counts[at is None] += 1
            if at is not None:
                self.assertIs(one.does_part(other, at, leaf_parting(leaf, other_leaf)[1]), True)
        self.assertGreater(min(counts.values()), 15)


class PlaceByPlace(unittest.TestCase):
    """Behind whatever deeds a leaf tells of each place what that place, with all its layers, tells by itself."""

    def check(self, model, leaf):
        self.assertEqual(told(leaf), of_model(model))
        for at, place in enumerate(model.places):
            kept = leaf.place(at)
            self.assertEqual(place_told(kept)[1:], (place.wear, place.thinned_rows(), place.seen()))

    def step(self, draws, pairs):
        model, leaf = draws.pick(pairs)
        other, other_leaf = draws.pick(pairs)
        lot, (begin, end) = draws.below(14), drawn_range(draws, len(model.places))
        if lot == 0:
            parts = []
            if both(lambda: parts.append(model.cut(begin, end)), lambda: parts.append(leaf.cut(begin, end))):
                pairs.append(tuple(parts))
        elif lot == 1 and len(model.places) + len(other.places) < 40:
            both(lambda: model.insert(begin, other), lambda: leaf.insert(begin, other_leaf))
        elif lot == 2:
            pairs.append((model.copied(), leaf.copied()))
        else:
            both_do(model, leaf, begin, end, draws.deed(model.inks))
        del pairs[:-6]

    def test_drawn(self):
        for seed in range(60):
            draws = Draws(seed)
            inks = draws.inks()
            pairs = [drawn_pair(draws, inks) for _ in range(2)]
            for _ in range(40):
                self.step(draws, pairs)
                for model, leaf in pairs[-2:]:
                    self.check(model, leaf)
            for model, leaf in pairs:
                self.check(model, leaf)
                self.assertIs(leaf == leaf_of(model), True)

    def test_runs_are_as_few_as_can_be(self):
        for seed in range(40):
            draws = Draws(100 + seed)
            model, leaf = drawn_pair(draws, draws.inks(), most=30)
            runs = leaf.runs()
            self.assertEqual(sum(many for many, _, _ in runs), len(model.places))
            for one, other in zip(runs, runs[1:]):
                self.assertNotEqual(one[1:], other[1:])

    def test_a_place_by_itself_behind_deeds(self):
        leaf, kept = Leaf(PALETTE, MOST, wear=4), Kept(PALETTE, wear=4)
        draws = Draws(7)
        for deed in draws.deeds(INKS, 60):
            if deed[0] in ("scrape", "rub") and kept.wear() == 0:
                continue
            word, *items = deed
            getattr(leaf, word)(*(items if word == "wait" else [0, MOST, *items]))
            kept = done(kept, [deed])
            self.assertEqual(leaf.runs(), [(MOST, kept.wear(), kept.rows())])
            self.assertEqual(leaf.place(MOST // 7), kept)

    def test_the_model_refuses_as_told(self):
        model, leaf = LeafModel(INKS, 2, wear=0), Leaf(PALETTE, 2, wear=0)
        self.assertIs(both_do(model, leaf, 1, 2, ("lay", "sun", "a", 3)), True)
        self.assertIs(both_do(model, leaf, 0, 2, ("scrape",)), False)
        self.assertIs(both_do(model, leaf, 0, 3, ("scrape",)), False)
        self.check(model, leaf)


class Calls(unittest.TestCase):
    def test_the_interface_is_defined_in_the_file(self):
        for thing in (Leaf, leaf_parting):
            self.assertEqual(thing.__module__, leaves.__name__)
        for name in METHODS:
            self.assertIn(name, vars(Leaf))

    def test_asked_again_the_same_is_told(self):
        leaf = made(10, RED)
        self.assertEqual(told(leaf), told(leaf))
        self.assertEqual(leaf.place(3), leaf.place(3))


if __name__ == "__main__":
    unittest.main()
