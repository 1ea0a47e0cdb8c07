"""Folds as rows of bytes: which rows are folds of a strand, and what these cost."""

from foldedstrand.strands import sort_of

OPENED = 40
CLOSED = 41
DOT = 46


def partners_of(strand, fold):
    """For each place the place it pairs with, or -1; None where the row is no fold of the strand."""
    partners = [-1] * len(strand)
    waiting = []
    for place, sign in enumerate(fold):
        if sign == OPENED:
            waiting.append(place)
        elif sign == CLOSED:
            if not waiting or sort_of(strand, waiting[-1], place) < 0:
                return None
            left = waiting.pop()
            partners[left] = place
            partners[place] = left
        elif sign != DOT:
            return None
    return None if waiting else partners


def fold_cost(tables, strand, partners):
    total = 0
    for place, partner in enumerate(partners):
        if partner > place:
            total += loop_cost(tables, strand, partners, place)
    return total


def loop_cost(tables, strand, partners, left):
    right = partners[left]
    inner = right_within(partners, left)
    unpaired = right - left - 1 - sum([partners[start] - start + 1 for start in inner])
    if not inner:
        return tables.ends[unpaired]
    if len(inner) == 1:
        return single_cost(tables, strand, (left, right), (inner[0], partners[inner[0]]))
    return tables.many_once + (len(inner) + 1) * tables.many_pair + unpaired * tables.many_letter


def right_within(partners, left):
    """Where the pairs begin that lie right within the pair that begins at left."""
    starts = []
    place = left + 1
    while place < partners[left]:
        if partners[place] >= 0:
            starts.append(place)
            place = partners[place]
        place += 1
    return starts


def single_cost(tables, strand, outer, inner):
    before = inner[0] - outer[0] - 1
    behind = outer[1] - inner[1] - 1
    if before + behind == 0:
        return tables.stacks[6 * sort_of(strand, outer[0], outer[1]) + sort_of(strand, inner[0], inner[1])]
    if before == 0 or behind == 0:
        return tables.sides[before + behind]
    return tables.both_sides[before + behind]
