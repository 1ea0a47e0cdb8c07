"""Point 6: pair."""

import unittest

from tests.helper import MODULUS, asked_with, how_many, make_tables, may_pair, pair

ZERO = [0] * 132
NO_STACKS = [1] * 36 + [0] * 96


class PairTest(unittest.TestCase):
    def test_folds_with_the_pair(self):
        self.assertEqual(asked_with(ZERO, pair(0, 4, "GAAACC"), pair(0, 5, "GAAACC")), [[1, 1], [1, 1]])
        # (.....) and ((...))
        self.assertEqual(asked_with(ZERO, pair(0, 6, "GGAAACC")), [[2, 2]])
        self.assertEqual(asked_with(make_tables(ends={3: -1}), pair(0, 6, "GGAAACC")), [[2, 1]])

    def test_in_folds_but_in_none_of_the_best(self):
        tables = make_tables(ends={3: -1})
        self.assertEqual(asked_with(tables, pair(0, 4, "GAAACC"), pair(0, 5, "GAAACC")), [[1, 1], [1, 0]])
        self.assertEqual(asked_with([1] * 132, pair(0, 6, "GGAAACC"), pair(1, 5, "GGAAACC")), [[2, 0], [2, 0]])

    def test_of_no_sort(self):
        strand = "ACGUAAAAACGU"
        for i in range(4):
            for j in range(8, 12):
                found = asked_with(ZERO, pair(i, j, strand))[0]
                self.assertEqual(found != [0, 0], may_pair(strand, i, j), (i, j))

    def test_too_near(self):
        self.assertEqual(asked_with([-5] * 132, pair(0, 1, "GC"), pair(0, 2, "GAC"), pair(0, 3, "GAAC")), [[0, 0]] * 3)
        self.assertEqual(asked_with([-5] * 132, pair(0, 4, "GAAAC")), [[1, 1]])
        found = asked_with(ZERO, *[pair(4, j, "AAAAGCCCCCC") for j in range(5, 11)])
        self.assertEqual(found, [[0, 0]] * 3 + [[1, 1]] * 3)

    def test_the_order_of_places_makes_the_sort(self):
        self.assertEqual(asked_with(ZERO, pair(0, 4, "GAAAU"), pair(0, 4, "UAAAG")), [[1, 1], [1, 1]])

    def test_larger_than_the_modulus(self):
        for strand, i, j in (("GC" * 50, 0, 99), ("GC" * 50, 10, 51), ("GC" * 50, 40, 45), ("GGGAAACCUU" * 10, 1, 97)):
            folds = how_many(strand) - how_many(strand, without=(i, j))
            bare = how_many(strand, stacked=False) - how_many(strand, without=(i, j), stacked=False)
            self.assertGreater(bare, MODULUS)
            found = asked_with(NO_STACKS, pair(i, j, strand))
            self.assertEqual(found, [[folds % MODULUS, bare % MODULUS]], (i, j))
            found = asked_with(ZERO, pair(i, j, strand))
            self.assertEqual(found, [[folds % MODULUS, folds % MODULUS]], (i, j))


if __name__ == "__main__":
    unittest.main()
