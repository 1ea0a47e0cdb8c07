"""How many folds a strand has, and how many of them cost least: all of them, or those with one pair."""

from foldedstrand.search import FAR, Prices, Search
from foldedstrand.strands import NEAREST, sort_of
from foldedstrand.tables import Tables

MODULUS = 1000000007


def weight_of_mark():
    """Larger than any number of folds: in a sum, folds with the marked pair stay apart from those without."""
    return 8 ** 64


def all_folds(strand, mark, weight):
    """How many folds there are, those with the marked pair counted weight times."""
    size = len(strand)
    # For each left end, by the place behind the stretch; an empty stretch folds in one way.
    rows = [[1] * (size + 1) for left in range(size + 1)]
    arcs = [[] for right in range(size)]
    for left in range(size - 1, -1, -1):
        row = rows[left]
        for right in range(left + NEAREST, size):
            if sort_of(strand, left, right) >= 0:
                within = rows[left + 1][right]
                arcs[right].append((left, within * weight if (left, right) == mark else within))
            row[right + 1] = row[right] + sum([row[start] * ways for start, ways in arcs[right]])
    return rows[0][size]


def best_folds(numbers, strand, mark, weight):
    """How many folds cost least, those with the marked pair counted weight times."""
    nothing = [0] * len(strand)
    prices = Prices(Tables(numbers, 1), FAR, nothing, nothing, mark, weight)
    return Search(strand, prices).least()[1]


def count_folds(numbers, strand):
    return [all_folds(strand, None, 1) % MODULUS, best_folds(numbers, strand, None, 1) % MODULUS]


def count_with_pair(numbers, strand, left, right):
    if sort_of(strand, left, right) < 0:
        return [0, 0]
    mark = (left, right)
    weight = weight_of_mark()
    folds = all_folds(strand, mark, weight) // weight
    best = best_folds(numbers, strand, mark, weight) // weight
    return [folds % MODULUS, best % MODULUS]
