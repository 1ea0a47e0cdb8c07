"""Strands, the sorts of pairs, and which places may pair."""

LONGEST = 100
# Three letters lie between two that pair, at least.
NEAREST = 4
LETTERS = (65, 67, 71, 85)
SORTS = {(65, 85): 0, (67, 71): 1, (71, 67): 2, (71, 85): 3, (85, 65): 4, (85, 71): 5}


def is_strand(letters):
    if not 1 <= len(letters) <= LONGEST:
        return False
    return all([letter in LETTERS for letter in letters])


def sort_of(strand, left, right):
    """The sort of this pair, or -1 where its letters or their distance allow none."""
    if right - left < NEAREST:
        return -1
    return SORTS.get((strand[left], strand[right]), -1)
