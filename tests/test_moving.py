import unittest

from fadeleaf import moving
from fadeleaf.leaves import Leaf
from fadeleaf.moving import graft_onto, press_onto
from fadeleaf.palettes import Palette
from leafmodel import LeafModel
from leaftools import (
    MOST, PALETTE, Refusing, both, both_do, drawn_pair, drawn_range, leaf_of, made, of_model, striped, told,
)
from model import Draws
from things import INKS, UNLIKE, no_numbers

MOVES = {"graft": graft_onto, "press": press_onto}
BARE = ((), ())


def both_move(word, pair, other_pair, begin, end, at):
    """Places of one leaf grafted or pressed onto those of another one, and so on their models."""
    (model, leaf), (other, other_leaf) = pair, other_pair
    return both(
        lambda: model.move(word, begin, end, other, at),
        lambda: MOVES[word](leaf, begin, end, other_leaf, at=at),
    )


class Grafted(Refusing):
    def test_place_by_place(self):
        leaf = made(5, ("lay", 0, 5, "sun", "a", 4), wear=4)
        other = made(6, ("lay", 2, 4, "sun", "b", 3), ("lay", 3, 6, "sky", "c", 9), wear=2)
        before = told(other)
        self.assertIsNone(graft_onto(leaf, 1, 4, other, at=2))
        self.assertEqual(leaf.runs(), [
            (1, 4, ((("a", 4),), ())), (1, 2, ((("a", 4), ("b", 3)), ())),
            (1, 2, ((("a", 4), ("b", 3)), (("c", 9),))), (1, 2, ((("a", 4),), (("c", 9),))),
            (1, 4, ((("a", 4),), ())),
        ])
        self.assertEqual(told(other), before)

    def test_at_left_out_is_0(self):
        leaf, other = Leaf(PALETTE, 5), made(3, ("lay", 0, 1, "sun", "a", 4))
        graft_onto(leaf, 2, 5, other)
        self.assertEqual(leaf.picture(), [(2, None), (1, ("sun", "a", 4)), (2, None)])

    def test_the_lesser_wear(self):
        leaf = striped(0, 1, 2, 3, 4, 5, 6)
        graft_onto(leaf, 0, 7, Leaf(PALETTE, 7, wear=3))
        self.assertEqual([leaf.place(at).wear() for at in range(7)], [0, 1, 2, 3, 3, 3, 3])

    def test_joined_again(self):
        leaf = made(6, ("lay", 0, 3, "sun", "a", 4))
        graft_onto(leaf, 3, 6, leaf.copied(), at=0)
        self.assertEqual(leaf.runs(), [(6, 3, ((("a", 4),), ()))])

    def test_thinned_and_normal(self):
        leaf = made(1, ("lay", 0, 1, "sun", "a", 4), ("lay", 0, 1, "sun", "b", 9))
        graft_onto(leaf, 0, 1, made(1, ("lay", 0, 1, "sun", "b", 5), wear=1))
        self.assertEqual(leaf.runs(), [(1, 1, ((("b", 5), ("b", 9)), ()))])

    def test_onto_itself(self):
        leaf = made(3, ("lay", 0, 1, "sun", "a", 1), ("lay", 1, 2, "sun", "b", 2))
        graft_onto(leaf, 0, 3, leaf)
        self.assertEqual([leaf.place(at).row("sun") for at in range(3)],
                         [(("a", 1), ("a", 1)), (("b", 2), ("b", 2)), ()])

    def test_onto_an_overlapping_part_of_itself(self):
        for begin, at in ((1, 0), (0, 1), (2, 0), (0, 2)):
            leaf = made(5)
            for number, tag in enumerate("abcde"):
                leaf.lay(number, number + 1, "sun", tag, 1)
            graft_onto(leaf, begin, begin + 3, leaf, at=at)
            rows = [[(tag, 1)] for tag in "abcde"]
            for number in range(3):
                rows[begin + number].append(("abcde"[at + number], 1))
            self.assertEqual([list(leaf.place(number).row("sun")) for number in range(5)], rows)


class Pressed(Refusing):
    def test_place_by_place(self):
        leaf = made(5, ("lay", 0, 5, "sun", "a", 4), wear=4)
        layers = [("lay", 2, 4, "sun", "b", 7), ("lay", 3, 4, "sky", "c", 9), ("lay", 4, 5, "sky", "c", 1)]
        other = made(6, *layers, wear=0)
        before = told(other)
        self.assertIsNone(press_onto(leaf, 1, 4, other, at=2))
        self.assertEqual(leaf.runs(), [
            (1, 4, ((("a", 4),), ())), (1, 4, ((("a", 4), ("b", 3)), ())), (1, 4, ((("a", 4),), (("c", 4),))),
            (2, 4, ((("a", 4),), ())),
        ])
        self.assertEqual(told(other), before)

    def test_at_left_out_is_0(self):
        leaf, other = Leaf(PALETTE, 5), made(3, ("lay", 0, 1, "sun", "a", 4))
        press_onto(leaf, 2, 5, other)
        self.assertEqual(leaf.picture(), [(2, None), (1, ("sun", "a", 2)), (2, None)])

    def test_onto_itself(self):
        leaf = made(2, ("lay", 0, 1, "sun", "a", 4))
        press_onto(leaf, 0, 2, leaf)
        self.assertEqual(leaf.runs(), [(1, 3, ((("a", 2), ("a", 4)), ())), (1, 3, BARE)])

    def test_onto_an_overlapping_part_of_itself(self):
        for begin, at in ((1, 0), (0, 1)):
            leaf = made(4)
            for number, tag in enumerate("abcd"):
                leaf.lay(number, number + 1, "sun", tag, 2 + 2 * number)
            press_onto(leaf, begin, begin + 3, leaf, at=at)
            rows = [[(tag, 2 + 2 * number)] for number, tag in enumerate("abcd")]
            for number in range(3):
                rows[begin + number].append(("abcd"[at + number], 1 + at + number))
            self.assertEqual([list(leaf.place(number).row("sun")) for number in range(4)], rows)

    def test_worn_out_places_are_pressed_too(self):
        leaf = made(2, ("lay", 0, 1, "sun", "a", 4), wear=0)
        press_onto(leaf, 1, 2, leaf)
        self.assertEqual(leaf.picture(), [(1, ("sun", "a", 4)), (1, ("sun", "a", 2))])


class Both(Refusing):
    def test_ranges(self):
        for word, move in MOVES.items():
            for begin in range(4):
                for end in range(begin, 4):
                    for at in range(6 - end + begin):
                        leaf, other = Leaf(PALETTE, 3), made(5, *[
                            ("lay", number, number + 1, "sky", "abcde"[number], 8) for number in range(5)])
                        move(leaf, begin, end, other, at=at)
                        tags = [None] * 3
                        tags[begin:end] = "abcde"[at:at + end - begin]
                        seen = [leaf.place(number).seen() for number in range(3)]
                        self.assertEqual([one and one[1] for one in seen], tags)

    def test_no_places_meant(self):
        for move in MOVES.values():
            for leaf in (made(4, ("lay", 1, 2, "sun", "a", 5)), Leaf(PALETTE, 0)):
                before = told(leaf)
                other = made(3, ("lay", 0, 3, "sky", "b", 9), wear=0)
                for at in range(leaf.many() + 1):
                    for other_at in range(4):
                        move(leaf, at, at, other, at=other_at)
                        move(leaf, at, at, Leaf(PALETTE, 0))
                        self.assertEqual(told(leaf), before)
                for thing in no_numbers(3):
                    self.refused("NoPlaces", lambda: move(leaf, 0, 0, other, at=thing), leaf, other)

    def test_of_very_many(self):
        for move, strength in ((graft_onto, 8), (press_onto, 4)):
            leaf, other = Leaf(PALETTE, MOST), made(MOST, ("lay", 7, MOST - 9, "sun", "a", 8))
            move(leaf, 5, MOST, other, at=5)
            self.assertEqual(leaf.picture(), [(7, None), (MOST - 16, ("sun", "a", strength)), (9, None)])
            move(leaf, 0, MOST, leaf)
            self.assertEqual([many for many, _ in leaf.picture()], [7, MOST - 16, 9])
            move(leaf, 0, 1, other, at=MOST - 1)
            self.refused("NoPlaces", lambda: move(leaf, 0, 1, other, at=MOST), leaf, other)
            self.refused("NoPlaces", lambda: move(leaf, 0, 2, other, at=MOST - 1), leaf, other)

    def test_refused_in_order(self):
        leaf = made(4, ("lay", 0, 4, "sun", "a", 5))
        likes = [Leaf(PALETTE, 3)]
        unlikes = [Leaf(Palette(inks), 9) for inks in UNLIKE]
        pairs = [(thing, 4) for thing in no_numbers(4)] + [(0, thing) for thing in no_numbers(4)]
        pairs += [(1, 0), (5, 5), (4, 3), (-1, -1), (0, 5)]
        for move in MOVES.values():
            for other in likes + unlikes:
                for begin, end in pairs:
                    self.refused("NoPlaces", lambda: move(leaf, begin, end, other, at=-1), leaf, other)
            for other in unlikes:
                for at in (0, -1, None, 99):
                    self.refused("Unlike", lambda: move(leaf, 0, 3, other, at=at), leaf, other)
            for thing in no_numbers(1):
                self.refused("NoPlaces", lambda: move(leaf, 2, 4, likes[0], at=thing), leaf, likes[0])
            self.refused("NoPlaces", lambda: move(leaf, 0, 4, likes[0]), leaf, likes[0])
            self.refused("NoPlaces", lambda: move(leaf, 1, 4, leaf, at=2), leaf)

    def test_at_by_its_name_alone(self):
        for move in MOVES.values():
            leaf = Leaf(PALETTE, 2)
            with self.assertRaises(TypeError):
                move(leaf, 0, 1, leaf, 1)

    def test_neither_knows_of_the_other(self):
        for move in MOVES.values():
            leaf, other = Leaf(PALETTE, 3), made(3, ("lay", 0, 3, "sun", "a", 8))
            move(leaf, 0, 3, other)
            before = told(leaf)
            other.wash(0, 3, "sun", 1)
            self.assertEqual(told(leaf), before)
            before = told(other)
            leaf.wash(0, 3, "sun", 1)
            self.assertEqual(told(other), before)
            copy = leaf.copied()
            before = told(copy)
            move(leaf, 0, 3, other)
            self.assertEqual(told(copy), before)

    def test_drawn(self):
        for seed in range(80):
            draws = Draws(seed)
            inks = draws.inks()
            pairs = [drawn_pair(draws, inks) for _ in range(3)]
            for _ in range(25):
                pair, other = draws.pick(pairs), draws.pick(pairs)
                begin, end = drawn_range(draws, len(pair[0].places))
                if draws.below(2) == 0:
                    both_do(*pair, begin, end, draws.deed(inks, most=12))
                    continue
                word = draws.pick(["graft", "press"])
                if max([len(place.layers) for model, _ in pairs for place in model.places], default=0) > 30:
                    word = "press"
                both_move(word, pair, other, begin, end, draws.below(len(other[0].places) + 1))
                for model, leaf in pairs:
                    self.assertEqual(told(leaf), of_model(model))
            for model, leaf in pairs:
                self.assertIs(leaf == leaf_of(model), True)

    def test_the_model_is_refused_alike(self):
        pair = LeafModel(INKS, 2), Leaf(PALETTE, 2)
        self.assertIs(both_move("graft", pair, pair, 0, 2, 1), False)
        self.assertIs(both_move("press", pair, pair, 0, 2, 0), True)


class Calls(unittest.TestCase):
    def test_the_interface_is_defined_in_the_file(self):
        for move in MOVES.values():
            self.assertEqual(move.__module__, moving.__name__)

    def test_by_name(self):
        for move, strength in ((graft_onto, 4), (press_onto, 2)):
            leaf = Leaf(PALETTE, 3)
            move(at=1, other=made(3, ("lay", 1, 2, "sun", "a", 4)), end=1, begin=0, leaf=leaf)
            self.assertEqual(leaf.picture(), [(1, ("sun", "a", strength)), (2, None)])


if __name__ == "__main__":
    unittest.main()
