"""Point 3: cost."""

import unittest

from tests.helper import SORTS, asked_with, cost, make_tables, told_apart

# In the tables told_apart: ends are 37 + unpaired, sides 68 + unpaired, both sides 99 + unpaired.
END = 40


def cost_of(tables, strand, fold):
    return asked_with(tables, cost(strand, fold))[0]


class CostOfLoopsTest(unittest.TestCase):
    def check(self, strand, fold, expected, tables=None):
        self.assertEqual(cost_of(tables or told_apart(), strand, fold), [0, expected], fold)

    def test_no_pair_costs_nothing(self):
        self.check("A", ".", 0)
        self.check("GACCAGU", ".......", 0)
        self.check("A" * 100, "." * 100, 0)

    def test_each_sort_closes_an_end(self):
        for sort in SORTS:
            self.check(sort[0] + "CCC" + sort[1], "(...)", END)

    def test_every_stack(self):
        for a, outer in enumerate(SORTS):
            for b, inner in enumerate(SORTS):
                strand = outer[0] + inner[0] + "CAC" + inner[1] + outer[1]
                self.check(strand, "((...))", 6 * a + b + 1 + END)

    def test_three_stacked(self):
        self.check("AGCAAAGUU", "(((...)))", (6 * 0 + 3 + 1) + (6 * 3 + 1 + 1) + END)

    def test_side(self):
        self.check("GAGAAACC", "(.(...))", 69 + END)
        self.check("GGAAACAC", "((...).)", 69 + END)
        self.check("GAAGAAACC", "(..(...))", 70 + END)
        self.check("GGAAACAAAC", "((...)...)", 71 + END)

    def test_both_sides(self):
        self.check("GAGAAACAC", "(.(...).)", 101 + END)
        self.check("GAAGAAACAC", "(..(...).)", 102 + END)
        self.check("GAGAAACAAC", "(.(...)..)", 102 + END)

    def test_loops_of_many(self):
        self.check("GGAAACGAAACC", "((...)(...))", 130 + 3 * 131 + 2 * END)
        self.check("GAGAAACAGAAACAAC", "(.(...).(...)..)", 130 + 3 * 131 + 4 * 132 + 2 * END)
        self.check("GGAAACGAAACAGAAACC", "((...)(...).(...))", 130 + 4 * 131 + 132 + 3 * END)

    def test_pairs_within_pairs_of_a_loop_of_many(self):
        self.check("GGGAAACCGAAACC", "(((...))(...))", 130 + 3 * 131 + 15 + 2 * END)

    def test_pairs_that_no_other_holds(self):
        self.check("GAAACGAAAC", "(...)(...)", 2 * END)
        self.check("AGAAACAGGAAACCA", ".(...).((...)).", 2 * END + 15)

    def test_numbers_below_zero_add_up(self):
        tables = [-number for number in told_apart()]
        self.check("GAGAAACAGAAACAAC", "(.(...).(...)..)", -(130 + 3 * 131 + 4 * 132 + 2 * END), tables)

    def test_nested_as_deep_as_may_be(self):
        fold = "(" * 48 + "..." + ")" * 48
        self.check("G" * 48 + "AAA" + "C" * 48, fold, 47 * 15 + END)
        self.check("G" * 48 + "AAA" + "C" * 48 + "A", fold + ".", 47 * 15 + END)
        self.check("G" * 48 + "AAA" + "C" * 48, fold, 48 * -10000, [-10000] * 132)


class CostOfManyUnpairedTest(unittest.TestCase):
    def check(self, strand, fold, expected):
        self.assertEqual(cost_of(told_apart(), strand, fold), [0, expected], fold)

    def test_ends(self):
        for letters in range(3, 99):
            strand = "G" + "A" * letters + "C"
            self.check(strand, "(" + "." * letters + ")", 37 + min(letters, 30))

    def test_sides(self):
        for letters in range(1, 94):
            more = "A" * letters
            dots = "." * letters
            self.check("G" + more + "GAAACC", "(" + dots + "(...))", 68 + min(letters, 30) + END)
            self.check("GGAAAC" + more + "C", "((...)" + dots + ")", 68 + min(letters, 30) + END)

    def test_both_sides(self):
        for before in range(1, 93):
            for behind in {1, 2, 29 - before, 30 - before, 31 - before, 93 - before}:
                if behind > 0 and before + behind <= 93:
                    strand = "G" + "A" * before + "GAAAC" + "A" * behind + "C"
                    fold = "(" + "." * before + "(...)" + "." * behind + ")"
                    self.check(strand, fold, 99 + min(before + behind, 30) + END)

    def test_in_a_loop_of_many_all_letters_count(self):
        for letters in (0, 1, 30, 31, 40, 88):
            strand = "G" + "GAAAC" + "A" * letters + "GAAAC" + "C"
            fold = "(" + "(...)" + "." * letters + "(...)" + ")"
            self.check(strand, fold, 130 + 3 * 131 + letters * 132 + 2 * END)

    def test_none_unpaired_is_a_stack_never_a_side(self):
        tables = make_tables(sides={0: 5000}, both={0: 5000, 1: 5000}, ends={0: 5000, 1: 5000, 2: 5000})
        self.assertEqual(cost_of(tables, "GGAAACC", "((...))"), [0, 0])


class NoFoldTest(unittest.TestCase):
    def check(self, strand, *folds):
        for fold in folds:
            self.assertEqual(len(strand), len(fold))
            self.assertEqual(cost_of(told_apart(), strand, fold), [-3], fold)

    def test_every_other_byte(self):
        for byte in range(256):
            fold = "(.." + chr(byte) + ".)"
            found = cost_of(make_tables(), "GAAAAC", fold)
            self.assertEqual(found, [0, 0] if chr(byte) == "." else [-3], byte)
        self.check("GAAAC", "GAAAC", "[...]", "(...]", "-----", "\0\0\0\0\0", "(..,)")

    def test_brackets_that_do_not_go_up(self):
        self.check("G", "(", ")")
        self.check("GAAAC", "(....", "....)", ")...(", "(((((", ")))))")
        self.check("GGAAACC", "((...).", "(....))", ".(...))", "((....)")
        self.check("GGAAACC", "(...)).")
        self.check("GAAACC", "(...))")

    def test_a_pair_of_no_sort(self):
        for left in "ACGU":
            for right in "ACGU":
                found = cost_of(make_tables(), left + "AAA" + right, "(...)")
                self.assertEqual(found, [0, 0] if left + right in SORTS else [-3])

    def test_a_pair_of_no_sort_within_or_around(self):
        self.check("GAAAACC", "((...))")
        self.check("AGAAACA", "((...))")
        self.check("GAAACAAAAC", "(...)(...)")

    def test_too_few_letters_between(self):
        self.check("GC", "()")
        self.check("GAC", "(.)")
        self.check("GAAC", "(..)")
        self.check("GGAACC", "((..))")
        self.check("GGCC", "(())")
        self.assertEqual(cost_of(make_tables(), "GAAAC", "(...)"), [0, 0])

    def test_letters_between_may_be_paired(self):
        # The outer pair has four letters between, the inner one two.
        self.check("GGAACC", "((..))")
        self.check("GGAACAC", "((..).)")


if __name__ == "__main__":
    unittest.main()
