"""The interface: lines of calls, how answers stand, what is handed in, nothing kept, large lines."""

import random
import unittest

from foldedstrand.loops import answers
from tests.helper import asked, best, best_row, cost, costs, count, make_tables, pair, told_apart


class Untouchable(list):
    """A list that can be read alone."""

    def refuse(self, *given, **named):
        raise AssertionError("what is handed in is changed")

    append = clear = extend = insert = pop = remove = reverse = sort = refuse
    __setitem__ = __delitem__ = __iadd__ = __imul__ = refuse


def mixed_line():
    return (costs(told_apart()) + cost("GGAAACC", "((...))") + best("GAAAC") + costs([10001] * 132)
            + count("GAAACC") + pair(0, 4, "GAAACC") + pair(0, 9, "GAAACC") + cost("GAAAC", "(..).")
            + costs(make_tables(ends={3: -7})) + best("GAAAC") + best("") + count("GAAACX"))


MIXED_ANSWERS = [1, 0, 2, 0, 55, 7, 0, 0, 46, 46, 46, 46, 46, 1, -1, 2, 3, 1, 2, 1, 0, 1, -1, 1, -3,
                 1, 0, 7, 0, -7, 40, 46, 46, 46, 41, 1, -1, 1, -1]


class LineTest(unittest.TestCase):
    def test_how_answers_stand(self):
        self.assertEqual(answers(mixed_line()), MIXED_ANSWERS)

    def test_a_line_of_one_call(self):
        self.assertEqual(answers(costs([0] * 132)), [1, 0])

    def test_answers_are_a_list_of_whole_numbers(self):
        given = answers(mixed_line())
        self.assertIs(type(given), list)
        self.assertEqual({type(number) for number in given}, {int})

    def test_what_is_handed_in_is_not_changed(self):
        line = mixed_line()
        before = list(line)
        answers(line)
        self.assertEqual(line, before)

    def test_what_is_handed_in_is_not_changed_for_a_while(self):
        self.assertEqual(answers(Untouchable(mixed_line())), MIXED_ANSWERS)

    def test_what_is_given_back_is_new(self):
        line = mixed_line()
        given = answers(line)
        given[0] = 99
        given.append(99)
        self.assertEqual(answers(line), MIXED_ANSWERS)

    def test_nothing_is_kept_from_one_time_to_the_next(self):
        fold = cost("GAAAC", "(...)") + count("GAAAC") + best("GAAAC") + pair(0, 4, "GAAAC")
        one = costs(make_tables(ends={3: 5})) + fold
        other = costs(make_tables(ends={3: -6})) + costs([-10001] * 132) + fold
        first = answers(one)
        second = answers(other)
        self.assertEqual(first, [1, 0, 2, 0, 5, 2, 2, 1, 7, 0, 0, 46, 46, 46, 46, 46, 2, 1, 0])
        self.assertEqual(second, [1, 0, 1, -1, 2, 0, -6, 2, 2, 1, 7, 0, -6, 40, 46, 46, 46, 41, 2, 1, 1])
        self.assertEqual(answers(one), first)
        self.assertEqual(answers(other), second)


class LargeLineTest(unittest.TestCase):
    def random_strand(self, chance, letters="ACGU"):
        return "".join(chance.choice(letters) for place in range(100))

    def test_three_hundred_calls(self):
        calls = [costs([-1] * 132)] + [best("GAAAC"), count("GAAAC"), pair(0, 4, "GAAAC")] * 99 + [count("A")] * 2
        self.assertEqual(len(calls), 300)
        found = asked(*calls)
        self.assertEqual(found, [[0]] + [[0, -1, 40, 46, 46, 46, 41], [2, 1], [1, 1]] * 99 + [[1, 1]] * 2)

    def test_many_costs(self):
        calls = []
        for turn in range(111):
            calls += [costs(make_tables(ends={3: turn})), costs([20000] * 132)]
        found = asked(*calls, cost("GAAAC", "(...)"))
        self.assertEqual(found, [[0], [-1]] * 111 + [[0, 110]])

    def test_as_many_long_strands_as_a_line_holds(self):
        chance = random.Random(21)
        tables = [chance.randint(-10000, 10000) for place in range(132)]
        calls = [costs(tables)]
        size = len(calls[0])
        while size + 104 <= 30000:
            strand = self.random_strand(chance)
            kind = len(calls) % 3
            calls.append([best(strand), count(strand), pair(strand.index("G"), strand.rindex("C"), strand)][kind])
            size += len(calls[-1])
        calls.append(best("A" * (30000 - size - 2)))
        self.assertEqual(sum(len(call) for call in calls), 30000)
        found = asked(*calls)
        self.assertEqual(len(found), len(calls))
        for call, answer in zip(calls[1:-1], found[1:-1]):
            self.assertEqual(len(answer), 102 if call[0] == 3 else 2)
        self.check_bests(calls[:-1], found[:-1])

    def check_bests(self, calls, found):
        """What cost says of the best folds is what best has said."""
        again = [calls[0]]
        told = [[0]]
        for call, answer in zip(calls, found):
            if call[0] == 3:
                again.append([2] + call[1:] + [100] + answer[2:])
                told.append([0, answer[1]])
        self.assertGreater(len(told), 90)
        self.assertEqual(asked(*again), told)

    def test_long_strands_of_which_all_folds_cost_the_same(self):
        chance = random.Random(22)
        for letters in ("GU", "GC", "ACGU"):
            strand = self.random_strand(chance, letters)
            found = asked(costs([0] * 132), best(strand), count(strand))
            self.assertEqual(best_row(found[1])[:2], (0, 0))
            self.assertEqual(found[2][0], found[2][1])


if __name__ == "__main__":
    unittest.main()
