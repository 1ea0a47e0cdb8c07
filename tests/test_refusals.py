"""Point 2: what the calls but costs refuse, and the order of refusals."""

import unittest

from tests.helper import asked_with, best, cost, count, make_tables, pair

ZERO = [0] * 132


class RefusalsTest(unittest.TestCase):
    def test_an_empty_strand(self):
        found = asked_with(ZERO, cost("", ""), best(""), count(""), pair(0, 1, ""), pair(0, 0, ""))
        self.assertEqual(found, [[-1]] * 5)

    def test_every_byte_that_is_no_letter(self):
        for byte in range(256):
            strand = "GAA" + chr(byte) + "AC"
            found = asked_with(ZERO, cost(strand, "(....)"), best(strand), count(strand), pair(0, 5, strand))
            if chr(byte) in "ACGU":
                self.assertTrue(all(answer[0] >= 0 for answer in found), byte)
            else:
                self.assertEqual(found, [[-1]] * 4, byte)

    def test_a_wrong_byte_at_each_place(self):
        for place in range(6):
            strand = "GAAAAC"[:place] + "T" + "GAAAAC"[place + 1:]
            found = asked_with(ZERO, cost(strand, "......"), best(strand), count(strand), pair(0, 5, strand))
            self.assertEqual(found, [[-1]] * 4)

    def test_small_letters_are_none(self):
        found = asked_with(ZERO, cost("g", "."), best("a"), count("c"), pair(0, 4, "gaaac"))
        self.assertEqual(found, [[-1]] * 4)

    def test_one_letter_and_a_hundred_are_strands(self):
        for strand in ("A", "C", "G", "U", "A" * 100):
            dots = "." * len(strand)
            found = asked_with(ZERO, cost(strand, dots), best(strand), count(strand))
            self.assertEqual(found, [[0, 0], [0, 0] + [46] * len(strand), [1, 1]])

    def test_pair_asks_for_places_in_order(self):
        strand = "GAAAAC"
        lowest, highest = -2147483648, 2147483647
        wrong = [(-1, 5), (-1, -1), (-2, -1), (0, 0), (5, 5), (5, 0), (3, 2), (0, 6), (6, 7), (5, 6), (6, 6),
                 (lowest, 5), (0, highest), (lowest, highest), (highest, lowest), (0, -1)]
        found = asked_with(ZERO, *[pair(i, j, strand) for i, j in wrong])
        self.assertEqual(found, [[-1]] * len(wrong))

    def test_pair_takes_the_outermost_places(self):
        self.assertEqual(asked_with(ZERO, pair(0, 5, "GAAAAC")), [[1, 1]])
        self.assertEqual(asked_with(ZERO, pair(0, 1, "GC")), [[0, 0]])

    def test_pair_of_a_strand_of_one_letter_is_always_refused(self):
        self.assertEqual(asked_with(ZERO, pair(0, 0, "G"), pair(0, 1, "G")), [[-1], [-1]])

    def test_no_strand_comes_before_no_fold(self):
        found = asked_with(ZERO, cost("GAAAX", "((((("), cost("X", "x"), cost("GAATC", "....)"))
        self.assertEqual(found, [[-1]] * 3)

    def test_refusals_leave_the_costs_as_they_were(self):
        found = asked_with(make_tables(ends={3: 4}), best("X"), count(""), pair(1, 0, "GAAAC"),
                           cost("GAAAC", "(..)."), cost("GAAAC", "(...)"))
        self.assertEqual(found, [[-1], [-1], [-1], [-3], [0, 4]])


if __name__ == "__main__":
    unittest.main()
