"""What the folds of a strand cost at least, and how many of them cost that.

Stretches of the strand are gone through by where they begin, from the strand's end on: what
a stretch is put together from begins behind it, or ends before it, and is known by then.
"""

from foldedstrand.strands import LONGEST, NEAREST, sort_of

# No sum of costs of one strand comes near: a stretch that can't be has about this, and 0 ways.
FAR = 1000000000


class Prices:
    """The tables, what a pair's two places cost besides, and how often folds with the marked pair count."""

    def __init__(self, tables, far, opening, closing, mark, weight):
        self.tables = tables
        self.far = far
        self.opening = opening
        self.closing = closing
        self.mark = mark
        self.weight = weight
        # A window's spans grow: the letters that they leave unpaired get fewer.
        self.both_down = tables.both_sides[LONGEST - 1:1:-1]


class Row:
    """What is known of the stretches that begin at left, by where they end.

    One and two are stretches of a loop of many with one pair right within it, and with two or more.
    """

    def __init__(self, left, size, far):
        self.left = left
        self.pair_costs = [far] * size
        self.pair_ways = [0] * size
        self.one_costs = [far] * size
        self.one_ways = [0] * size
        self.two_costs = [far] * size
        self.two_ways = [0] * size


class Arcs:
    """Pairs that begin together, each with where it ends; or that end together, each with the place before it."""

    def __init__(self):
        self.places = []
        self.costs = []
        self.ways = []

    def put(self, place, cost, ways):
        self.places.append(place)
        self.costs.append(cost)
        self.ways.append(ways)


class Window:
    """The pairs that leave a letter on both sides within a pair.

    Of those as far apart, which cost alike within it, the least is kept: by
    the span, that is how much farther apart they are than the nearest pairs.
    """

    def __init__(self, size, far):
        self.low_costs = [far] * size
        self.low_ways = [0] * size

    def widen(self, arcs, right):
        """Take in the pairs that end at right."""
        lows = self.low_costs
        counts = self.low_ways
        widest = right - NEAREST - 1
        for before, cost, ways in zip(arcs.places, arcs.costs, arcs.ways):
            span = widest - before
            if cost < lows[span]:
                lows[span] = cost
                counts[span] = ways
            elif cost == lows[span]:
                counts[span] += ways


def merged(cost, ways, other_cost, other_ways):
    if cost < other_cost:
        return (cost, ways)
    if other_cost < cost:
        return (other_cost, other_ways)
    return (cost, ways + other_ways)


def offered(found, costs, ways):
    """What was found, or the least of these, or both where they cost the same."""
    low = min(costs, default=found[0])
    if low > found[0]:
        return found
    return merged(found[0], found[1], low, sum([many for cost, many in zip(costs, ways) if cost == low]))


class Search:
    """Row by row, the least costs of a strand's stretches and how many folds have them."""

    def __init__(self, strand, prices):
        size = len(strand)
        self.strand = strand
        self.size = size
        self.prices = prices
        self.rows = [Row(left, size, prices.far) for left in range(size + 2)]
        # By their right ends, the pairs that begin two places behind the row at hand, or later.
        self.arcs = [Arcs() for right in range(size)]
        self.rest_costs = [0] * (size + 1)
        self.rest_ways = [1] * (size + 1)

    def least(self):
        """The least cost of a fold of the whole strand, and how many folds have it."""
        for left in range(self.size - 1, -1, -1):
            self.release(self.rows[left + 2])
            self.fill_pairs(self.rows[left])
            self.fill_many(self.rows[left])
            self.fill_rest(self.rows[left])
        return (self.rest_costs[0], self.rest_ways[0])

    def release(self, row):
        for right in range(row.left + NEAREST, self.size):
            if row.pair_ways[right] > 0:
                self.arcs[right].put(row.left - 1, row.pair_costs[right], row.pair_ways[right])

    def fill_pairs(self, row):
        within = self.rows[row.left + 1]
        window = Window(self.size, self.prices.far)
        # The pairs that begin right behind left and leave a letter before right.
        shorter = Arcs()
        for right in range(row.left + NEAREST, self.size):
            window.widen(self.arcs[right - 2], right - 2)
            if within.pair_ways[right - 2] > 0:
                shorter.put(right - 2, within.pair_costs[right - 2], within.pair_ways[right - 2])
            outer = sort_of(self.strand, row.left, right)
            if outer >= 0:
                found = self.offer_near(row.left, right, outer)
                self.keep_pair(row, right, self.offer_single(found, row.left, right, shorter, window))

    def offer_near(self, left, right, outer):
        """Loops with no pair right within, with two or more, and with one where nothing is unpaired."""
        tables = self.prices.tables
        within = self.rows[left + 1]
        closing = tables.many_once + tables.many_pair
        found = merged(tables.ends[right - left - 1], 1,
                       within.two_costs[right - 1] + closing, within.two_ways[right - 1])
        inner = sort_of(self.strand, left + 1, right - 1)
        if inner < 0:
            return found
        return merged(found[0], found[1], within.pair_costs[right - 1] + tables.stacks[6 * outer + inner],
                      within.pair_ways[right - 1])

    def offer_single(self, found, left, right, shorter, window):
        """Loops with one pair right within and unpaired letters: behind it, before it, on both sides."""
        sides = self.prices.tables.sides
        costs = [cost + sides[right - 1 - end] for end, cost in zip(shorter.places, shorter.costs)]
        found = offered(found, costs, shorter.ways)
        arcs = self.arcs[right - 1]
        costs = [cost + sides[before - left] for before, cost in zip(arcs.places, arcs.costs)]
        found = offered(found, costs, arcs.ways)
        room = right - left - 2 - NEAREST
        costs = [cost + both for cost, both in zip(window.low_costs, self.prices.both_down[LONGEST - 1 - room:])]
        return offered(found, costs, window.low_ways)

    def keep_pair(self, row, right, found):
        prices = self.prices
        row.pair_costs[right] = found[0] + prices.opening[row.left] + prices.closing[right]
        row.pair_ways[right] = found[1] * prices.weight if prices.mark == (row.left, right) else found[1]

    def fill_many(self, row):
        """Stretches of loops of many; begun are those whose one pair begins them, some have one pair or more."""
        far = self.prices.far
        letter = self.prices.tables.many_letter
        pair = self.prices.tables.many_pair
        after = self.rows[row.left + 1]
        some_costs = [far] * self.size
        some_ways = [0] * self.size
        begun = (far, 0)
        two = (far, 0)
        for right in range(row.left + NEAREST, self.size):
            last = self.last_of_two(right, some_costs, some_ways)
            two = merged(two[0] + letter, two[1], last[0] + pair, last[1])
            begun = merged(begun[0] + letter, begun[1], row.pair_costs[right] + pair, row.pair_ways[right])
            one = merged(begun[0], begun[1], after.one_costs[right] + letter, after.one_ways[right])
            some = merged(one[0], one[1], two[0], two[1])
            row.two_costs[right] = two[0]
            row.two_ways[right] = two[1]
            row.one_costs[right] = one[0]
            row.one_ways[right] = one[1]
            some_costs[right] = some[0]
            some_ways[right] = some[1]

    def last_of_two(self, right, some_costs, some_ways):
        """Stretches whose last pair ends them, with one or more before it."""
        arcs = self.arcs[right]
        totals = [some_costs[before] + cost for before, cost in zip(arcs.places, arcs.costs)]
        low = min(totals, default=self.prices.far)
        ways = [some_ways[arcs.places[at]] * arcs.ways[at] for at, total in enumerate(totals) if total == low]
        return (low, sum(ways))

    def fill_rest(self, row):
        """From left to the strand's end; what no pair holds costs nothing."""
        found = (self.rest_costs[row.left + 1], self.rest_ways[row.left + 1])
        for right in range(row.left + NEAREST, self.size):
            found = merged(found[0], found[1], row.pair_costs[right] + self.rest_costs[right + 1],
                           row.pair_ways[right] * self.rest_ways[right + 1])
        self.rest_costs[row.left] = found[0]
        self.rest_ways[row.left] = found[1]
