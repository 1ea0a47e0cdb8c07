"""Point 1: costs."""

import unittest

from tests.helper import asked, cost, costs, make_tables, told_apart


class CostsTest(unittest.TestCase):
    def test_tables_are_taken(self):
        self.assertEqual(asked(costs([0] * 132)), [[0]])
        self.assertEqual(asked(costs(told_apart())), [[0]])

    def test_each_number_may_be_as_large_as_the_range(self):
        for place in range(132):
            for number in (-10000, 10000):
                tables = [0] * 132
                tables[place] = number
                self.assertEqual(asked(costs([1] * 132), costs(tables)), [[0], [0]])

    def test_each_number_is_refused_beyond_the_range(self):
        for place in range(132):
            for number in (-10001, 10001, -2147483648, 2147483647):
                tables = [0] * 132
                tables[place] = number
                self.assertEqual(asked(costs([1] * 132), costs(tables)), [[0], [-1]])

    def test_extreme_numbers_are_what_loops_cost(self):
        for number in (-10000, 10000):
            found = asked(costs(make_tables(ends={3: number})), cost("GAAAC", "(...)"))
            self.assertEqual(found, [[0], [0, number]])

    def test_a_refused_costs_changes_nothing(self):
        wrong = [7] * 131 + [10001]
        found = asked(costs(make_tables(ends={3: 5})), costs(wrong), cost("GAAAC", "(...)"))
        self.assertEqual(found, [[0], [-1], [0, 5]])

    def test_a_later_costs_that_is_taken_holds_from_then_on(self):
        fold = cost("GAAAC", "(...)")
        found = asked(costs(make_tables(ends={3: 5})), fold, costs(make_tables(ends={3: 6})), fold, fold)
        self.assertEqual(found, [[0], [0, 5], [0], [0, 6], [0, 6]])

    def test_refused_and_taken_in_turn(self):
        fold = cost("GAAAC", "(...)")
        found = asked(costs(make_tables(ends={3: 1})), costs([-10001] * 132), fold,
                      costs(make_tables(ends={3: 2})), costs([10001] * 132), fold)
        self.assertEqual(found, [[0], [-1], [0, 1], [0], [-1], [0, 2]])


if __name__ == "__main__":
    unittest.main()
