"""Points 3 to 6 against a plain listing of all folds."""

import random
import unittest

from tests.helper import asked_with, best, best_row, cost, count, listing, pair, pairs_of, plain_cost, texts

NESTED = "GGAAACGAAACC"


def random_tables(chance):
    """Tables of one of several makes: far apart, at the ends of the range, many equal, all equal, below 0."""
    makes = [
        lambda: chance.randint(-10000, 10000),
        lambda: chance.choice([-10000, 10000]),
        lambda: chance.randint(-1, 1),
        lambda: chance.choice([0, 0, 0, -1]),
        lambda: -chance.randint(1, 3),
        lambda: 0,
    ]
    make = chance.choice(makes)
    return [make() for place in range(132)]


def short_strand(chance):
    letters = chance.choice(["ACGU", "GU", "GC", "GGCCAU", "GCA"])
    return "".join(chance.choice(letters) for place in range(chance.randint(1, 16)))


def thin_strand(chance):
    """Long, but with few letters that may pair: so its loops have many unpaired letters."""
    size = chance.randint(30, 100)
    strand = ["A"] * size
    for place in chance.sample(range(size), chance.randint(2, 8)):
        strand[place] = chance.choice("GC")
    return "".join(strand)


class ListingTest(unittest.TestCase):
    def check(self, strand, tables, chance):
        folds = listing(strand)
        prices = [plain_cost(strand, fold, tables) for fold in folds]
        low = min(prices)
        least = [fold for fold, price in zip(folds, prices) if price == low]
        found = asked_with(tables, best(strand), count(strand))
        self.assertEqual(best_row(found[0]), (0, low, least[0]), (strand, tables))
        self.assertEqual(found[1], [len(folds), len(least)], (strand, tables))
        self.check_pairs(strand, tables, folds, least, chance)
        some = chance.sample(range(len(folds)), min(40, len(folds)))
        found = asked_with(tables, *[cost(strand, folds[at]) for at in some])
        self.assertEqual(found, [[0, prices[at]] for at in some], (strand, tables))

    def check_pairs(self, strand, tables, folds, least, chance):
        every = [(i, j) for j in range(len(strand)) for i in range(j)]
        some = chance.sample(every, min(25, len(every)))
        some += sorted({held for fold in folds for held in pairs_of(fold)})[:15]
        of_folds = [pairs_of(fold) for fold in folds]
        of_least = [pairs_of(fold) for fold in least]
        found = asked_with(tables, *[pair(i, j, strand) for i, j in some])
        for held, answer in zip(some, found):
            expected = [sum(held in pairs for pairs in of_folds), sum(held in pairs for pairs in of_least)]
            self.assertEqual(answer, expected, (strand, tables, held))

    def test_short_strands(self):
        chance = random.Random(11)
        for turn in range(200):
            self.check(short_strand(chance), random_tables(chance), chance)

    def test_strands_with_loops_of_many(self):
        chance = random.Random(12)
        for turn in range(40):
            strand = list(NESTED)
            for more in range(chance.randint(0, 4)):
                strand.insert(chance.randint(0, len(strand)), chance.choice("AGC"))
            tables = random_tables(chance)
            tables[129:132] = [chance.randint(-300, 10), chance.randint(-30, 10), chance.randint(-3, 1)]
            self.check("".join(strand), tables, chance)

    def test_long_strands_with_few_pairs(self):
        chance = random.Random(13)
        for turn in range(40):
            self.check(thin_strand(chance), random_tables(chance), chance)

    def test_which_rows_are_folds(self):
        chance = random.Random(14)
        for turn in range(60):
            strand = short_strand(chance)
            folds = listing(strand)
            rows = ["".join(chance.choice("().") for letter in strand) for more in range(30)]
            rows += [changed(chance.choice(folds), chance) for more in range(30)]
            found = asked_with([0] * 132, *[cost(strand, row) for row in rows])
            self.assertEqual(found, [[0, 0] if row in folds else [-3] for row in rows], (strand, rows))

    def test_every_row_of_a_small_strand(self):
        rows = [""]
        for letter in range(6):
            rows = [row + sign for row in rows for sign in "()."]
        folds = listing("GGAACC")
        self.assertEqual(folds, ["(...).", "(....)", ".(...)", "......"])
        for start in range(0, len(rows), 200):
            part = rows[start:start + 200]
            found = asked_with([0] * 132, *[cost("GGAACC", row) for row in part])
            self.assertEqual(found, [[0, 0] if row in folds else [-3] for row in part])


def changed(fold, chance):
    place = chance.randrange(len(fold))
    return fold[:place] + texts([chance.choice([40, 41, 46, 0, 47])]) + fold[place + 1:]


if __name__ == "__main__":
    unittest.main()
