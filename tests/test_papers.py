import unittest

from fadeleaf import papers
from fadeleaf.deeds import is_deed, wears
from fadeleaf.errors import NoLayer
from fadeleaf.palettes import Palette
from fadeleaf.papers import brought, does_bar, does_bring, fewest, is_kept, rank
from fadeleaf.places import Place
from model import Draws, behind
from things import BIG, INKS, no_amounts, no_deeds, others

PALETTE = Palette(INKS)
# By rank the marks of sun are 3, 2, 0, 5, 4.
LAYERS = [
    ("lay", "sun", "red", 4), ("lay", "sky", "red", 7), ("lay", "sun", "blue", 9), ("lay", "sun", "red", 9),
    ("lay", "sun", "a", 1), ("lay", "sun", "b", 2),
]


def made(*deeds, wear=3):
    """A place behind deeds."""
    place = Place(PALETTE, wear=wear)
    for deed in deeds:
        place.do(deed)
    return place


def told(place):
    """All that a place tells, as one value."""
    inks = place.palette().names()
    return (inks, place.wear(), [(place.row(ink), place.marks(ink)) for ink in inks], place.seen_mark())


def drawn(seed, many=25):
    """A model and a place behind the same deeds that are drawn, and the inks."""
    draws = Draws(seed)
    inks = draws.inks()
    model = behind(inks, seed % 7, draws.deeds(inks, many, most=9))
    place = Place(Palette(inks), wear=model.wear)
    # Marks are given anew in the place only where each layer that is gone was laid and washed off there, too.
    for layer in model.layers:
        if layer.there:
            place.lay(layer.ink, layer.tag, layer.strength)
        else:
            laid_and_gone(place, layer.ink)
    return model, place, draws


def laid_and_gone(place, ink):
    """Lay a layer on a place and let it be gone, all else as it was."""
    place.warm(ink, 1)
    place.lay(ink, "gone", 1)
    place.wash(ink, 1)


def there(model):
    """The marks of all layers that are there."""
    return [layer.mark for layer in model.layers if layer.there]


class Ranks(unittest.TestCase):
    def test_rank(self):
        place = made(*LAYERS)
        self.assertEqual([rank(place, mark) for mark in range(6)], [2, 0, 1, 0, 4, 3])

    def test_is_kept_at_most_the_wear(self):
        for wear in range(7):
            place = made(*LAYERS, wear=wear)
            for mark, at in enumerate([2, 0, 1, 0, 4, 3]):
                self.assertIs(is_kept(place, mark), at <= wear)
                self.assertEqual(fewest(place, mark), at if at <= wear else None)

    def test_as_strong_ones(self):
        place = made(*[("lay", "sky", tag, 5) for tag in "abc"], wear=1)
        self.assertEqual([rank(place, mark) for mark in range(3)], [2, 1, 0])
        self.assertEqual([is_kept(place, mark) for mark in range(3)], [False, True, True])

    def test_behind_scrapes_washes_and_grafts(self):
        place = made(*LAYERS, ("scrape",), ("wash", "sun", 1))
        self.assertEqual([rank(place, mark) for mark in (0, 1, 2, 5)], [1, 0, 0, 2])
        place.graft(place)
        self.assertEqual(place.marks("sun"), [0, 2, 5, 6, 7, 8])
        self.assertEqual([rank(place, mark) for mark in (0, 2, 5, 6, 7, 8, 1, 9)], [3, 1, 5, 2, 0, 4, 1, 0])
        self.assertEqual(rank(place.copied(), 5), 5)

    def test_drawn_against_the_model(self):
        for seed in range(60):
            model, place, _ = drawn(seed)
            for mark in there(model):
                at = model.rank(mark)
                self.assertEqual(rank(place, mark), at)
                self.assertIs(is_kept(place, mark), at <= model.wear)
                self.assertEqual(fewest(place, mark), at if at <= model.wear else None)


class Brought(unittest.TestCase):
    def check(self, place, model, mark):
        """The paper of a layer does as the document says, done on the model."""
        before = told(place)
        word, paper = brought(place, mark)
        at = model.rank(mark)
        self.assertIs(type(brought(place, mark)), tuple)
        self.assertIs(type(paper), list)
        if word == "deeds":
            self.assertLessEqual(at, model.wear)
            self.check_deeds(place, model, mark, paper)
            self.assertIs(does_bring(place, mark, paper), True)
        else:
            self.assertEqual(word, "barred")
            self.assertGreater(at, model.wear)
            self.assertEqual(paper, sorted(set(paper)))
            self.assertEqual(len(paper), model.wear + 1)
            for one in paper:
                self.assertIn(one, model.marks(model.layers[mark].ink))
                self.assertLess(model.rank(one), at)
            self.assertIs(does_bar(place, mark, paper), True)
        self.assertIs(does_bar(place, mark, paper), word == "barred")
        self.assertEqual(told(place), before)

    def check_deeds(self, place, model, mark, deeds):
        left = model.copied()
        for deed in deeds:
            self.assertTrue(is_deed(deed, place.palette()), deed)
            self.assertFalse(left.refuses(deed))
        self.assertEqual(left.seen_mark(), mark)
        self.assertEqual(len([deed for deed in deeds if wears(deed)]), model.rank(mark))

    def test_each_layer_at_each_wear(self):
        for wear in range(7):
            for mark in range(6):
                self.check(made(*LAYERS, wear=wear), behind(INKS, wear, LAYERS), mark)

    def test_barred(self):
        place = made(*LAYERS, wear=1)
        self.assertEqual(brought(place, 0), ("barred", [2, 3]))
        word, marks = brought(place, 4)
        self.assertEqual((word, len(marks)), ("barred", 2))

    def test_of_wear_zero(self):
        place = made(("lay", "sun", "a", 1), ("lay", "sky", "b", 1), ("lay", "sun", "c", 1), wear=0)
        self.assertEqual(brought(place, 0), ("barred", [2]))
        for mark in (1, 2):
            self.assertEqual(brought(place, mark)[0], "deeds")
            self.assertIs(does_bring(place, mark, brought(place, mark)[1]), True)

    def test_numbers_of_sixty_figures(self):
        deeds = [("lay", "sun", "a", BIG), ("lay", "sky", "b", BIG + 1), ("lay", "sun", "c", BIG - 1)]
        for mark in range(3):
            self.check(made(*deeds), behind(INKS, 3, deeds), mark)

    def test_a_told_list_is_the_askers_own(self):
        for wear in (1, 3):
            place = made(*LAYERS, wear=wear)
            before = brought(place, 0)
            before[1].clear()
            self.assertNotEqual(brought(place, 0), before)
            self.assertIsNot(brought(place, 0)[1], brought(place, 0)[1])
            self.assertEqual(brought(place, 0), brought(place, 0))

    def test_drawn_against_the_model(self):
        words = {"deeds": 0, "barred": 0}
        for seed in range(150):
            model, place, _ = drawn(seed)
            for mark in there(model):
                self.check(place, model, mark)
                words[brought(place, mark)[0]] += 1
        self.assertGreater(min(words.values()), 50)


class ForEver(unittest.TestCase):
    def test_a_barred_layer_is_never_seen(self):
        barred = 0
        for seed in range(80):
            model, place, draws = drawn(seed, many=15)
            marks = [mark for mark in there(model) if not is_kept(place, mark)]
            barred += len(marks)
            for _ in range(4):
                left = model.copied()
                for deed in draws.deeds(model.inks, 12):
                    left.refuses(deed)
                    for mark in [mark for mark in marks if left.layers[mark].there]:
                        self.assertNotEqual(left.seen_mark(), mark)
                        self.assertGreater(left.rank(mark), left.wear)
        self.assertGreater(barred, 50)

    def test_with_fewer_wears_none_is_seen(self):
        """All that deeds can come to is gone through, strengths up to one more than at first."""
        for seed in range(40):
            draws = Draws(seed)
            wear = draws.below(4)
            layers = [(draws.pick(["sun", "sky"]), 1 + draws.below(3)) for _ in range(2 + draws.below(4))]
            place = made(*[("lay", ink, "a", strength) for ink, strength in layers], wear=wear)
            least = least_wears(layers, wear)
            self.assertEqual([fewest(place, mark) for mark in range(len(layers))], least)


def least_wears(layers, wear):
    """For each layer the least wears behind which it is seen, None where it never is, found by going through all."""
    most = max(strength for _, strength in layers) + 1
    least = [None] * len(layers)
    start = (wear, tuple(strength for _, strength in layers))
    seen_states, todo = {start}, [start]
    while todo:
        left, strengths = todo.pop()
        at = seen_number(layers, strengths)
        if at is not None and (least[at] is None or wear - left < least[at]):
            least[at] = wear - left
        for state in [*moved(layers, left, strengths, most), *worn(left, strengths, at)]:
            if state not in seen_states:
                seen_states.add(state)
                todo.append(state)
    return least


def seen_number(layers, strengths):
    keys = [(strengths[at], layers[at][0] == "sun", at) for at in range(len(layers)) if strengths[at] > 0]
    return max(keys)[2] if keys else None


def moved(layers, left, strengths, most):
    """The states behind washes and warms by 1."""
    for ink in ("sun", "sky"):
        for n in (-1, 1):
            state = [one + n if one > 0 and layer[0] == ink else one for one, layer in zip(strengths, layers)]
            if max(state) <= most:
                yield left, tuple(state)


def worn(left, strengths, at):
    """The states behind rubs and scrapes."""
    if at is not None and left > 0:
        for strength in range(strengths[at]):
            yield left - 1, strengths[:at] + (strength,) + strengths[at + 1:]


class NoLayers(unittest.TestCase):
    def asks(self, place, mark):
        return [
            lambda: rank(place, mark), lambda: is_kept(place, mark), lambda: brought(place, mark),
            lambda: fewest(place, mark), lambda: does_bring(place, mark, []), lambda: does_bar(place, mark, []),
            lambda: does_bring(place, mark, None), lambda: does_bar(place, mark, None),
            lambda: does_bring(place, mark, [("lay", "sun", "a", 9)]), lambda: does_bar(place, mark, [0]),
        ]

    def check(self, place, mark):
        before = told(place)
        for ask in self.asks(place, mark):
            with self.assertRaises(NoLayer) as caught:
                ask()
            self.assertIs(caught.exception.who, mark)
        self.assertEqual(told(place), before)

    def test_of_anything(self):
        for thing in [6, 7, -1, BIG, -BIG, True, False, "", "0", "sun", b"0", (0,), [0], {0: 0}, *others()]:
            self.check(made(*LAYERS), thing)

    def test_gone_and_scraped(self):
        place = made(*LAYERS, ("wash", "sun", 2), ("scrape",))
        for mark in (3, 4, 5):
            self.check(place, mark)
        self.assertEqual([rank(place, mark) for mark in (0, 1, 2)], [1, 0, 0])

    def test_a_mark_not_given_yet(self):
        self.check(made(*LAYERS), 6)
        self.check(Place(PALETTE), 0)


class DoesBring(unittest.TestCase):
    def test_it_does(self):
        place = made(*LAYERS)
        for mark, deeds in (
            (3, []), (2, [("scrape",)]), (1, [("wash", "sun", 3)]), (1, [("wait", 2)]), (2, [("rub", 1)]),
            (0, [("wash", "sky", 7), ("rub", 6), ("scrape",)]), (3, [("lay", "sun", "a", 10), ("scrape",)]),
            (0, [("rub", 6), ("rub", 6), ("wash", "sky", BIG)]),
        ):
            self.assertIs(does_bring(place, mark, deeds), True, (mark, deeds))

    def test_it_does_not(self):
        place = made(*LAYERS)
        for mark, deeds in (
            (2, []), (3, [("scrape",)]), (0, [("rub", 5), ("scrape",)]), (3, [("lay", "sun", "red", 9)]),
            (3, [("wash", "sun", 9)]), (4, [("scrape",)] * 3),
        ):
            self.assertIs(does_bring(place, mark, deeds), False, (mark, deeds))

    def test_more_wears_than_needed(self):
        self.assertIs(does_bring(made(*LAYERS), 2, [("lay", "sky", "a", 10), ("scrape",), ("scrape",)]), True)

    def test_refused(self):
        place = made(*LAYERS, wear=1)
        self.assertIs(does_bring(place, 2, [("scrape",)]), True)
        self.assertIs(does_bring(place, 2, [("lay", "sun", "a", 10), ("scrape",), ("scrape",)]), False)
        self.assertIs(does_bring(place, 2, [("scrape",), ("rub", 1)]), False)
        self.assertIs(does_bring(place, 3, [("wash", "sky", 7), ("rub", 1), ("rub", 1), ("wash", "sun", 8)]), False)
        self.assertIs(does_bring(made(*LAYERS, wear=0), 3, [("rub", 1)]), False)

    def test_of_anything(self):
        place = made(*LAYERS)
        before = told(place)
        for thing in [True, False, 0, "", (), (("scrape",),), {}, {("scrape",): 1}, ("scrape",), [3], [True], [[]]]:
            self.assertIs(does_bring(place, 3, thing), thing == [])
        for thing in others():
            if not isinstance(thing, list) or len(thing) > 0:
                self.assertIs(does_bring(place, 3, thing), False)
        for thing in no_deeds():
            self.assertIs(does_bring(place, 3, [thing]), False)
            self.assertIs(does_bring(place, 3, [("wait", 1), thing]), False)
            self.assertIs(does_bring(place, 3, [thing, ("wait", 1)]), False)
        self.assertEqual(told(place), before)

    def test_what_is_handed_in_stays(self):
        place, deeds = made(*LAYERS), [("scrape",), ("lay", "sun", "a", 20)]
        before = told(place)
        self.assertIs(does_bring(place, 2, deeds), False)
        self.assertEqual((told(place), deeds), (before, [("scrape",), ("lay", "sun", "a", 20)]))
        self.assertEqual(place.lay("sun", "a", 1), 6)


class DoesBar(unittest.TestCase):
    def test_it_does(self):
        for wear, mark, marks in (
            (0, 2, [3]), (0, 0, [2]), (0, 0, [3]), (1, 0, [2, 3]), (1, 4, [2, 5]), (2, 4, [0, 3, 5]),
            (3, 4, [0, 2, 3, 5]),
        ):
            self.assertIs(does_bar(made(*LAYERS, wear=wear), mark, marks), True, (wear, mark, marks))

    def test_it_does_not(self):
        for wear, mark, marks in (
            (0, 2, []), (0, 2, [2]), (0, 2, [0]), (0, 2, [1]), (0, 0, [2, 3]), (0, 3, [2]), (1, 0, [3, 2]), (1, 0, [2]),
            (1, 0, [2, 2]), (1, 0, [1, 3]), (1, 0, [2, 5]), (1, 0, [2, 3, 3]), (1, 4, [2, 4]), (2, 0, [1, 2, 3]),
            (1, 0, [2, 9]), (1, 0, [-1, 3]), (1, 4, [0, 1]), (1, 5, [4, 3]),
        ):
            self.assertIs(does_bar(made(*LAYERS, wear=wear), mark, marks), False, (wear, mark, marks))

    def test_layers_that_are_gone_do_not(self):
        place = made(*LAYERS, ("scrape",), wear=1)
        self.assertIs(does_bar(place, 0, [2]), True)
        self.assertIs(does_bar(place, 0, [3]), False)

    def test_of_anything(self):
        place = made(*LAYERS, wear=1)
        before = told(place)
        for thing in [True, False, 0, "", (2, 3), {2: 1, 3: 1}, {2, 3}, "23", [[2, 3]], [(2, 3)], None, *others()]:
            self.assertIs(does_bar(place, 0, thing), False)
        for thing in no_amounts():
            self.assertIs(does_bar(place, 0, [thing, 3]), False)
            self.assertIs(does_bar(place, 0, [2, thing]), False)
        self.assertEqual(told(place), before)

    def test_truths_are_no_marks(self):
        place = made(("lay", "sun", "a", 1), ("lay", "sun", "b", 3), ("lay", "sun", "c", 2), wear=0)
        self.assertIs(does_bar(place, 0, [1]), True)
        self.assertIs(does_bar(place, 0, [True]), False)
        place = made(("lay", "sun", "a", 3), ("lay", "sun", "b", 1), wear=0)
        self.assertIs(does_bar(place, 1, [0]), True)
        self.assertIs(does_bar(place, 1, [False]), False)

    def test_the_handed_list_stays(self):
        marks = [3, 2]
        does_bar(made(*LAYERS, wear=1), 0, marks)
        self.assertEqual(marks, [3, 2])


class Calls(unittest.TestCase):
    def test_the_interface_is_defined_in_the_file(self):
        for name in ("rank", "is_kept", "brought", "fewest", "does_bring", "does_bar"):
            self.assertEqual(getattr(papers, name).__module__, "fadeleaf.papers")

    def test_by_name(self):
        place = made(*LAYERS, wear=1)
        self.assertEqual(rank(mark=0, place=place), 2)
        self.assertIs(is_kept(mark=0, place=place), False)
        self.assertEqual(brought(mark=0, place=place), ("barred", [2, 3]))
        self.assertIsNone(fewest(mark=0, place=place))
        self.assertIs(does_bring(deeds=[], mark=3, place=place), True)
        self.assertIs(does_bar(marks=[2, 3], mark=0, place=place), True)


if __name__ == "__main__":
    unittest.main()
