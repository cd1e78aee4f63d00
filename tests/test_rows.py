import unittest
from itertools import product

from fadeleaf import rows
from fadeleaf.rows import alike, first, normal, ranked, rubbed, scraped, stronger, thinned, weaker

BIG = 10 ** 59
DONE = [("weaker", 1), ("stronger", 2), ("lay", 2), ("scrape", 0), ("rub", 1), ("rub", 2), ("thin", 2)]
ROW = (("red", 3), ("sky", 7), ("red", 3), ("sea", 9), ("sky", 7), ("a", 1))


def all_rows(most, tags=("a", "b"), strengths=(1, 2, 3)):
    """All rows of up to so many layers."""
    layers = list(product(tags, strengths))
    return [row for many in range(most + 1) for row in product(layers, repeat=many)]


def rank_by_counting(row, number):
    """How many layers are ahead of one, straight by the document's words."""
    strength = row[number][1]
    return len([at for at, layer in enumerate(row) if layer[1] > strength or layer[1] == strength and at > number])


class Ranks(unittest.TestCase):
    def test_the_stronger_ahead_of_as_strong_ones_the_upper(self):
        self.assertEqual(ranked(ROW), [3, 4, 1, 2, 0, 5])
        self.assertEqual(first(ROW), 3)

    def test_as_strong_ones(self):
        row = (("a", 5), ("b", 5), ("a", 5))
        self.assertEqual(ranked(row), [2, 1, 0])
        self.assertEqual(first(row), 2)

    def test_no_layers(self):
        self.assertEqual(ranked(()), [])
        self.assertIsNone(first(()))

    def test_one_layer(self):
        self.assertEqual(ranked((("a", 1),)), [0])
        self.assertEqual(first((("a", 1),)), 0)

    def test_numbers_of_sixty_figures(self):
        self.assertEqual(ranked((("a", BIG), ("b", BIG + 1), ("c", BIG))), [1, 2, 0])

    def test_all_short_rows(self):
        for row in all_rows(4):
            told = ranked(row)
            self.assertEqual(sorted(told), list(range(len(row))))
            for number in range(len(row)):
                self.assertEqual(told.index(number), rank_by_counting(row, number), row)
            self.assertEqual(first(row), told[0] if row else None)

    def test_a_told_list_is_the_askers_own(self):
        told = ranked(ROW)
        told.clear()
        self.assertEqual(ranked(ROW), [3, 4, 1, 2, 0, 5])
        self.assertIsNot(ranked(ROW), ranked(ROW))


class Strengths(unittest.TestCase):
    def test_weaker(self):
        self.assertEqual(weaker(ROW, 2), (("red", 1), ("sky", 5), ("red", 1), ("sea", 7), ("sky", 5)))

    def test_gone_at_just_zero_and_below(self):
        self.assertEqual(weaker((("a", 4), ("b", 5), ("c", 3)), 4), (("b", 1),))
        self.assertEqual(weaker(ROW, 9), ())
        self.assertEqual(weaker(ROW, BIG), ())

    def test_stronger(self):
        self.assertEqual(stronger((("a", 4), ("b", 1)), 6), (("a", 10), ("b", 7)))
        self.assertEqual(stronger((("a", 4),), BIG), (("a", BIG + 4),))

    def test_by_nothing(self):
        for done in (weaker, stronger, rubbed):
            self.assertEqual(done(ROW, 0), ROW)

    def test_rubbed_its_first_alone(self):
        self.assertEqual(rubbed(ROW, 4), ROW[:3] + (("sea", 5),) + ROW[4:])
        self.assertEqual(rubbed((("a", 5), ("a", 5)), 1), (("a", 5), ("a", 4)))

    def test_rubbed_to_just_zero_and_below(self):
        self.assertEqual(rubbed(ROW, 8), ROW[:3] + (("sea", 1),) + ROW[4:])
        self.assertEqual(rubbed(ROW, 9), ROW[:3] + ROW[4:])
        self.assertEqual(rubbed(ROW, 10), ROW[:3] + ROW[4:])
        self.assertEqual(rubbed((("a", BIG),), BIG), ())
        self.assertEqual(rubbed((("a", BIG),), BIG - 1), (("a", 1),))

    def test_scraped(self):
        self.assertEqual(scraped(ROW), ROW[:3] + ROW[4:])
        self.assertEqual(scraped(scraped(ROW)), ROW[:3] + ROW[5:])
        self.assertEqual(scraped((("a", 1),)), ())

    def test_scraped_of_as_strong_ones_the_upper(self):
        self.assertEqual(scraped((("a", 5), ("b", 5), ("c", 1))), (("a", 5), ("c", 1)))

    def test_no_layers_is_so_whatever_is_done(self):
        told = [weaker((), 3), stronger((), 3), rubbed((), 3), scraped(()), thinned((), 0), thinned((), 4), normal(())]
        self.assertEqual(told, [()] * 7)

    def test_amounts_are_not_gone_through_one_by_one(self):
        row = (("a", 10 ** 900), ("b", 1))
        self.assertEqual(weaker(row, 10 ** 900 - 1), (("a", 1),))
        self.assertEqual(weaker(stronger(row, 10 ** 900), 10 ** 900), row)


class Thinned(unittest.TestCase):
    def test_its_ranks_below_many_in_its_order(self):
        self.assertEqual(thinned(ROW, 1), (("sea", 9),))
        self.assertEqual(thinned(ROW, 2), (("sea", 9), ("sky", 7)))
        self.assertEqual(thinned(ROW, 3), (("sky", 7), ("sea", 9), ("sky", 7)))

    def test_to_none_to_all_and_to_more_than_there_are(self):
        self.assertEqual(thinned(ROW, 0), ())
        for many in (6, 7, BIG):
            self.assertEqual(thinned(ROW, many), ROW)

    def test_all_short_rows(self):
        for row in all_rows(4):
            for many in range(6):
                kept = tuple(row[at] for at in range(len(row)) if rank_by_counting(row, at) < many)
                self.assertEqual(thinned(row, many), kept)

    def test_a_thinned_row_tells_what_the_whole_row_tells(self):
        deeds = [("weaker", 1), ("stronger", 1), ("lay", 2), ("scrape", 0), ("rub", 1), ("rub", 2)]
        all_strengths = [one for many in range(1, 5) for one in product((1, 2, 3), repeat=many)]
        whole = [tuple(zip("abcd", strengths)) for strengths in all_strengths]
        for row, done in product(whole, product(deeds, repeat=3)):
            worn = len([word for word, _ in done if word in ("scrape", "rub")])
            one, other = row, thinned(row, worn + 1)
            for word, n in done:
                one, other = after(one, word, n), after(other, word, n)
            self.assertEqual([one[k] for k in ranked(one)[:1]], [other[k] for k in ranked(other)[:1]], (row, done))


class Normal(unittest.TestCase):
    def test_each_stretch_by_strength_the_weakest_lowest(self):
        row = (("a", 3), ("a", 1), ("a", 2), ("b", 9), ("b", 4), ("a", 1))
        self.assertEqual(normal(row), (("a", 1), ("a", 2), ("a", 3), ("b", 4), ("b", 9), ("a", 1)))

    def test_another_tag_between_parts_stretches(self):
        row = (("a", 5), ("b", 2), ("a", 1), ("b", 1))
        self.assertEqual(normal(row), row)

    def test_one_and_as_strong_ones(self):
        for row in ((("a", 5),), (("a", 5), ("a", 5)), (("b", 5), ("a", 5))):
            self.assertEqual(normal(row), row)

    def test_strengths_are_numbers_not_texts(self):
        row = (("a", 10), ("a", 9), ("a", BIG), ("a", 100))
        self.assertEqual(normal(row), (("a", 9), ("a", 10), ("a", 100), ("a", BIG)))

    def test_all_short_rows(self):
        for row in all_rows(4):
            made = normal(row)
            self.assertEqual([tag for tag, _ in made], [tag for tag, _ in row])
            for at in range(len(made) - 1):
                self.assertFalse(made[at][0] == made[at + 1][0] and made[at][1] > made[at + 1][1], row)
            self.assertEqual(sorted(made), sorted(row))
            self.assertEqual(normal(made), made)


class Alike(unittest.TestCase):
    def test_alike(self):
        one = (("a", 3), ("a", 1), ("b", 2))
        self.assertIs(alike(one, (("a", 1), ("a", 3), ("b", 2))), True)
        self.assertIs(alike(one, one), True)
        self.assertIs(alike((), ()), True)

    def test_not_alike(self):
        one = (("a", 3), ("b", 2), ("a", 1))
        others = [(("a", 1), ("b", 2), ("a", 3)), (("a", 1), ("a", 3), ("b", 2)), (("a", 3), ("b", 2), ("a", 2))]
        for other in [*others, one[:2], ()]:
            self.assertIs(alike(one, other), False)
            self.assertIs(alike(other, one), False)

    def test_alike_rows_stay_alike_and_tell_the_same_at_each_rank(self):
        for row in all_rows(4):
            other = normal(row)
            self.assertIs(alike(row, other), True)
            self.assertEqual([row[k] for k in ranked(row)], [other[k] for k in ranked(other)])
            for word, n in DONE:
                self.assertIs(alike(after(row, word, n), after(other, word, n)), True, (row, word))


def after(row, word, n):
    """The row behind one thing that is done to it."""
    if word == "lay":
        return row + (("z", n),)
    if word == "scrape":
        return scraped(row)
    done = {"weaker": weaker, "stronger": stronger, "rub": rubbed, "thin": thinned}[word]
    return done(row, n)


class Calls(unittest.TestCase):
    def test_the_interface_is_defined_in_the_file(self):
        for name in ("ranked", "first", "weaker", "stronger", "rubbed", "scraped", "thinned", "normal", "alike"):
            self.assertEqual(getattr(rows, name).__module__, "fadeleaf.rows")

    def test_by_name(self):
        row = (("a", 3), ("a", 1))
        self.assertEqual(ranked(row=row), [0, 1])
        self.assertEqual(first(row=row), 0)
        self.assertEqual(weaker(n=1, row=row), (("a", 2),))
        self.assertEqual(stronger(n=1, row=row), (("a", 4), ("a", 2)))
        self.assertEqual(rubbed(n=1, row=row), (("a", 2), ("a", 1)))
        self.assertEqual(scraped(row=row), (("a", 1),))
        self.assertEqual(thinned(many=1, row=row), (("a", 3),))
        self.assertEqual(normal(row=row), (("a", 1), ("a", 3)))
        self.assertIs(alike(other=row, one=()), False)

    def test_rows_are_told_as_tuples_of_tuples(self):
        for row in (ROW, ()):
            for told in (weaker(row, 1), stronger(row, 1), rubbed(row, 1), scraped(row), thinned(row, 2), normal(row)):
                self.assertIs(type(told), tuple)
                self.assertTrue(all(type(layer) is tuple for layer in told))

    def test_asked_again_the_same_is_told(self):
        for ask in (ranked, first, scraped, normal):
            self.assertEqual(ask(ROW), ask(ROW))
        for ask in (weaker, stronger, rubbed, thinned):
            self.assertEqual(ask(ROW, 2), ask(ROW, 2))


if __name__ == "__main__":
    unittest.main()
