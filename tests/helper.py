"""Calls put together, and plain listings of folds to hold the program against."""

from collections import Counter
from functools import lru_cache

from foldedstrand.loops import answers

MODULUS = 1000000007
SORTS = ["AU", "CG", "GC", "GU", "UA", "UG"]


def codes(text):
    return [ord(sign) for sign in text]


def texts(numbers):
    return "".join(chr(number) for number in numbers)


def row(numbers):
    return [len(numbers)] + list(numbers)


def costs(tables):
    return [1] + row(tables)


def cost(strand, fold):
    return [2] + row(codes(strand)) + row(codes(fold))


def best(strand):
    return [3] + row(codes(strand))


def count(strand):
    return [4] + row(codes(strand))


def pair(i, j, strand):
    return [5, i, j] + row(codes(strand))


def asked(*calls):
    """The answers to these calls, a list each."""
    line = [number for call in calls for number in call]
    given = answers(line)
    found = []
    while given:
        found.append(given[1:1 + given[0]])
        given = given[1 + given[0]:]
    return found


def asked_with(tables, *calls):
    """As asked, behind a costs that is taken."""
    found = asked(costs(tables), *calls)
    assert found[0] == [0], found[0]
    return found[1:]


def best_row(answer):
    """A best's answer as 0, the cost, and the fold as a text."""
    return answer[0], answer[1], texts(answer[2:])


def make_tables(stacks=None, ends=None, sides=None, both=None, many=None):
    """Tables that are 0 but for these: stacks by two sorts, the others by how many are unpaired."""
    tables = [0] * 132
    for (outer, inner), number in (stacks or {}).items():
        tables[6 * SORTS.index(outer) + SORTS.index(inner)] = number
    for start, part in ((36, ends), (67, sides), (98, both)):
        for letters, number in (part or {}).items():
            tables[start + letters] = number
    tables[129:132] = many or [0, 0, 0]
    return tables


def told_apart():
    """Tables of which no two numbers are the same."""
    return list(range(1, 133))


def may_pair(strand, i, j):
    return j - i > 3 and strand[i] + strand[j] in SORTS


def listing(strand):
    """Every fold of a strand, as texts, first by bytes first."""
    @lru_cache(maxsize=None)
    def rows(i, j):
        if i >= j:
            return [""]
        found = ["." + rest for rest in rows(i + 1, j)]
        for k in range(i + 4, j):
            if may_pair(strand, i, k):
                found += ["(" + held + ")" + rest for held in rows(i + 1, k) for rest in rows(k + 1, j)]
        return found
    return sorted(rows(0, len(strand)))


def pairs_of(fold):
    waiting, found = [], []
    for place, sign in enumerate(fold):
        if sign == "(":
            waiting.append(place)
        elif sign == ")":
            found.append((waiting.pop(), place))
    return found


def plain_loop(strand, tables, i, j, inner):
    """What the loop costs that the pair (i, j) closes with the pairs inner."""
    left_out = j - i - 1 - sum(last - first + 1 for first, last in inner)
    capped = min(left_out, 30)
    if not inner:
        return tables[36 + capped]
    if len(inner) > 1:
        return tables[129] + (len(inner) + 1) * tables[130] + left_out * tables[131]
    (k, last), = inner
    if left_out == 0:
        return tables[6 * SORTS.index(strand[i] + strand[j]) + SORTS.index(strand[k] + strand[last])]
    return tables[(67 if k == i + 1 or last == j - 1 else 98) + capped]


def plain_cost(strand, fold, tables):
    pairs = pairs_of(fold)
    total = 0
    for i, j in pairs:
        held = [(k, m) for k, m in pairs if i < k and m < j]
        inner = [(k, m) for k, m in held if not any(a < k and m < b for a, b in held)]
        total += plain_loop(strand, tables, i, j, inner)
    return total


def together(one, other, more=0):
    found = Counter()
    for a, x in one.items():
        for b, y in other.items():
            found[a + b + more] += x * y
    return found


def all_costs(strand, tables, without=None):
    """How many folds have each cost, those with the pair without left out. Every loop is gone through."""
    @lru_cache(maxsize=None)
    def paired(i, j):
        found = Counter()
        if not may_pair(strand, i, j) or (i, j) == without:
            return found
        found[plain_loop(strand, tables, i, j, [])] += 1
        for k in range(i + 1, j):
            for m in range(k + 4, j):
                if may_pair(strand, k, m):
                    more = plain_loop(strand, tables, i, j, [(k, m)])
                    found.update(together(paired(k, m), Counter({more: 1})))
        found.update(together(many(i + 1, j, 2), Counter({tables[129] + tables[130]: 1})))
        return found

    @lru_cache(maxsize=None)
    def many(i, j, least):
        if i == j:
            return Counter() if least else Counter({0: 1})
        found = together(many(i + 1, j, least), Counter({tables[131]: 1}))
        for k in range(i + 4, j):
            found.update(together(paired(i, k), many(k + 1, j, max(0, least - 1)), tables[130]))
        return found

    @lru_cache(maxsize=None)
    def rest(i):
        if i == len(strand):
            return Counter({0: 1})
        found = Counter(rest(i + 1))
        for k in range(i + 4, len(strand)):
            found.update(together(paired(i, k), rest(k + 1)))
        return found

    return rest(0)


def how_many(strand, without=None, stacked=True):
    """How many folds a strand has: those with the pair without left out, and those with stacks if not stacked."""
    size = len(strand)
    ways = [[1] * (size + 1) for start in range(size + 2)]
    paired = [[0] * (size + 1) for start in range(size + 2)]
    for i in reversed(range(size)):
        for j in range(i + 1, size + 1):
            if may_pair(strand, i, j - 1) and (i, j - 1) != without:
                paired[i][j] = ways[i + 1][j - 1] - (0 if stacked else paired[i + 1][j - 1])
            ways[i][j] = ways[i + 1][j] + sum(paired[i][k] * ways[k][j] for k in range(i + 5, j + 1))
    return ways[0][size]
