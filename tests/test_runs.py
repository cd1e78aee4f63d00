import unittest

from fadeleaf import runs
from fadeleaf.runs import joined
from leafmodel import grouped, spread
from model import Draws


class Joined(unittest.TestCase):
    def test_neighbours_alike(self):
        self.assertEqual(joined([(2, "a"), (3, "a"), (1, "b"), (4, "a")]), [(5, "a"), (1, "b"), (4, "a")])

    def test_none(self):
        self.assertEqual(joined([]), [])
        self.assertEqual(joined([(0, "a")]), [])
        self.assertEqual(joined([(0, "a"), (0, "b"), (0, "a")]), [])

    def test_none_of_nothing_between(self):
        self.assertEqual(joined([(2, "a"), (0, "b"), (3, "a")]), [(5, "a")])
        self.assertEqual(joined([(0, "b"), (3, "a"), (0, "a"), (0, "c")]), [(3, "a")])

    def test_things_of_any_kinds(self):
        for thing, other in ((None, 0), ("a", "b"), ((1, ("a",)), (1, ("b",))), ([1], [2]), ({"a": 1}, {"a": 2})):
            told = joined([(1, thing), (2, thing), (1, other), (0, thing), (1, other), (1, thing)])
            self.assertEqual(told, [(3, thing), (2, other), (1, thing)])
            self.assertEqual([type(pair) for pair in told], [tuple] * 3)

    def test_very_many(self):
        big = 10 ** 299
        self.assertEqual(joined([(big, "a"), (10 ** 18, "a"), (1, None)]), [(big + 10 ** 18, "a"), (1, None)])

    def test_drawn(self):
        for seed in range(60):
            draws = Draws(seed)
            pairs = [(draws.below(4), draws.pick("ab")) for _ in range(draws.below(12))]
            handed = list(pairs)
            told = joined(pairs)
            self.assertEqual(told, grouped(spread(pairs)))
            self.assertEqual(pairs, handed)
            self.assertEqual(joined(told), told)

    def test_what_is_told_is_the_askers_own(self):
        inner = [1]
        pairs = [(1, inner), (1, "a"), (1, inner), (2, ("b", inner))]
        told = joined(pairs)
        lists = [told[0][1], told[2][1], told[3][1][1], inner]
        self.assertEqual(len({id(one) for one in lists}), 4)
        told[0][1].append(2)
        told.clear()
        self.assertEqual(pairs, [(1, [1]), (1, "a"), (1, [1]), (2, ("b", [1]))])
        told = joined(pairs)
        inner.append(3)
        pairs.clear()
        self.assertEqual(told, [(1, [1]), (1, "a"), (1, [1]), (2, ("b", [1]))])

    def test_without_bearing_behind_the_call(self):
        pairs = [(1, "a")]
        told = joined(pairs=pairs)
        pairs.append((1, "b"))
        self.assertEqual(told, [(1, "a")])
        self.assertIsNot(joined(told), told)

    def test_defined_in_the_file(self):
        self.assertEqual(joined.__module__, runs.__name__)


if __name__ == "__main__":
    unittest.main()
