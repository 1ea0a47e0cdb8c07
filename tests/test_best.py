"""Point 4: best."""

import unittest

from tests.helper import asked_with, best, best_row, cost, make_tables, told_apart


def best_of(tables, strand):
    return best_row(asked_with(tables, best(strand))[0])


class BestTest(unittest.TestCase):
    def test_pairs_that_cost_are_left_out(self):
        self.assertEqual(best_of(told_apart(), "GGGAAACCC"), (0, 0, "........."))

    def test_a_stack_pays(self):
        tables = make_tables(stacks={("GC", "GC"): -5}, ends={3: 4, 4: 9, 5: 9})
        self.assertEqual(best_of(tables, "GGGAAACCC"), (0, -6, "(((...)))"))

    def test_the_sorts_tell_the_stack(self):
        tables = [10000] * 132
        tables[6 * 3 + 4] = -10000
        tables[36 + 3] = 1
        self.assertEqual(best_of(tables, "AGUAAAAUA"), (0, -9999, ".((...))."))

    def test_a_side_pays(self):
        tables = make_tables(sides={2: -7}, ends={letters: 1 for letters in range(31)})
        self.assertEqual(best_of(tables, "GAAGAAACC"), (0, -6, "(..(...))"))
        self.assertEqual(best_of(tables, "GGAAACAAC"), (0, -6, "((...)..)"))

    def test_both_sides_pay(self):
        tables = make_tables(both={3: -7}, ends={letters: 1 for letters in range(31)})
        self.assertEqual(best_of(tables, "GAAGAAACAC"), (0, -6, "(..(...).)"))
        self.assertEqual(best_of(tables, "GAGAAACAAC"), (0, -6, "(.(...)..)"))

    def test_a_loop_of_many_pays(self):
        tables = make_tables(many=[-50, 3, 2], ends={letters: 1 for letters in range(31)})
        self.assertEqual(best_of(tables, "GAGAAACAGAAACC"), (0, -50 + 9 + 4 + 2, "(.(...).(...))"))

    def test_several_pairs_that_no_other_holds(self):
        tables = [9] * 132
        tables[39] = -1
        self.assertEqual(best_of(tables, "AGAAACAGAAACA"), (0, -2, ".(...).(...)."))

    def test_the_first_by_its_bytes(self):
        # Folds are (...). and (....) and ......, and all cost the same.
        self.assertEqual(best_of([0] * 132, "GAAACC"), (0, 0, "(...)."))
        # Those with a pair cost the same, the first closes later.
        self.assertEqual(best_of(make_tables(ends={3: 1, 4: 0}), "GAAACC"), (0, 0, "(....)"))
        # ((...)) , (.....) , .(...). and others, all the same.
        self.assertEqual(best_of([0] * 132, "GGAAACC"), (0, 0, "((...))"))
        # An opening at the first place or at the second.
        self.assertEqual(best_of(make_tables(ends={3: -1, 4: -1}), "GGAAAC"), (0, -1, "(....)"))
        self.assertEqual(best_of(make_tables(ends={3: -2, 4: -1}), "GGAAAC"), (0, -2, ".(...)"))

    def test_one_letter(self):
        for strand in "ACGU":
            self.assertEqual(best_of([-10000] * 132, strand), (0, 0, "."))

    def test_exactly_three_letters_between(self):
        self.assertEqual(best_of([-10000] * 132, "GAAAC"), (0, -10000, "(...)"))
        self.assertEqual(best_of([-10000] * 132, "GAAC"), (0, 0, "...."))

    def test_many_unpaired_count_as_thirty(self):
        for letters in (30, 31, 50, 98):
            tables = [10000] * 132
            tables[36 + 30] = -3
            strand = "G" + "A" * letters + "C"
            self.assertEqual(best_of(tables, strand), (0, -3, "(" + "." * letters + ")"))

    def test_many_unpaired_in_sides(self):
        for letters in (30, 31, 60, 93):
            tables = [10000] * 132
            tables[67 + 30] = -3
            tables[36 + 3] = 1
            strand = "G" + "A" * letters + "GAAACC"
            self.assertEqual(best_of(tables, strand), (0, -2, "(" + "." * letters + "(...))"))

    def test_many_unpaired_on_both_sides(self):
        for before, behind in ((1, 29), (29, 1), (15, 15), (1, 30), (30, 1), (40, 53), (92, 1), (1, 92)):
            tables = [10000] * 132
            tables[98 + 30] = -3
            tables[36 + 3] = 1
            strand = "G" + "A" * before + "GAAAC" + "A" * behind + "C"
            fold = "(" + "." * before + "(...)" + "." * behind + ")"
            self.assertEqual(best_of(tables, strand), (0, -2, fold))

    def test_a_hundred_letters(self):
        self.assertEqual(best_of([-10000] * 132, "A" * 100), (0, 0, "." * 100))
        strand = "G" * 48 + "AAA" + "C" * 48 + "A"
        tables = make_tables(stacks={("GC", "GC"): -10000})
        tables[36:129] = [10000] * 93
        tables[129:132] = [10000] * 3
        self.assertEqual(best_of(tables, strand), (0, 10000 - 47 * 10000, "(" * 48 + "..." + ")" * 48 + "."))

    def test_the_fold_costs_what_is_told(self):
        strand = "GGCAUCGGAUUACGCUAGGCUAUUGCAGCAUGGCAUCCGAU" * 2
        tables = [(number * 7919) % 20001 - 10000 for number in range(132)]
        answer = best_of(tables, strand)
        self.assertEqual(asked_with(tables, cost(strand, answer[2])), [[0, answer[1]]])


if __name__ == "__main__":
    unittest.main()
