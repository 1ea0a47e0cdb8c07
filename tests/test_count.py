"""Point 5: count."""

import unittest

from tests.helper import MODULUS, all_costs, asked_with, count, how_many, make_tables, told_apart

ZERO = [0] * 132
# Folds without a stack cost least by these, and all others more.
NO_STACKS = [1] * 36 + [0] * 96
LARGE = ("GC" * 50, "G" * 50 + "C" * 50, "GGGAAACCUU" * 10)


class CountTest(unittest.TestCase):
    def test_no_pair_may_be(self):
        for strand in ("A", "GC", "GAAC", "A" * 100, "GGGGGGGG"):
            self.assertEqual(asked_with([-1] * 132, count(strand)), [[1, 1]])

    def test_all_folds_and_those_that_cost_least(self):
        self.assertEqual(asked_with(ZERO, count("GAAACC")), [[3, 3]])
        self.assertEqual(asked_with(make_tables(ends={3: -1}), count("GAAACC")), [[3, 1]])
        self.assertEqual(asked_with(make_tables(ends={3: -1, 4: -1}), count("GAAACC")), [[3, 2]])
        self.assertEqual(asked_with(make_tables(ends={3: 1}), count("GAAACC")), [[3, 2]])
        self.assertEqual(asked_with(told_apart(), count("GAAACC")), [[3, 1]])

    def test_pairs_beside_and_within_one_another(self):
        # None, (...)....., ....(...)
        self.assertEqual(asked_with(ZERO, count("GAAACAAAG")), [[3, 3]])
        # None, the first, the second, both, the outermost alone
        self.assertEqual(asked_with(ZERO, count("GAAACGAAAC")), [[5, 5]])
        self.assertEqual(asked_with(make_tables(ends={3: -1}), count("GAAACGAAAC")), [[5, 1]])

    def test_larger_than_the_modulus(self):
        for strand in LARGE:
            folds = how_many(strand)
            self.assertGreater(folds, MODULUS)
            self.assertEqual(asked_with(ZERO, count(strand)), [[folds % MODULUS, folds % MODULUS]])

    def test_those_that_cost_least_are_more_than_the_modulus_too(self):
        for strand in LARGE:
            folds = how_many(strand)
            bare = how_many(strand, stacked=False)
            self.assertGreater(bare, MODULUS)
            self.assertNotEqual(folds, bare)
            self.assertEqual(asked_with(NO_STACKS, count(strand)), [[folds % MODULUS, bare % MODULUS]])

    def test_against_all_costs_of_longer_strands(self):
        tables = [(number * 31 + 7) % 5 - 2 for number in range(132)]
        for strand in ("GCAUGGCAUCCGAUUGCAGUCAUGGCAUUC", "GUGUGGUUGUGUGUUGGUGUGGGUUUGU", "GGC" + "A" * 31 + "GCC"):
            found = all_costs(strand, tables)
            self.assertEqual(asked_with(tables, count(strand)), [[sum(found.values()), found[min(found)]]])

    def test_counts_are_not_kept_from_one_call_to_the_next(self):
        calls = [count("GAAACC"), count("GAAAC"), count("GAAACC")]
        self.assertEqual(asked_with(ZERO, *calls), [[3, 3], [2, 2], [3, 3]])


if __name__ == "__main__":
    unittest.main()
