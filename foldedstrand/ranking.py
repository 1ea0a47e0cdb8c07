"""The first of the best folds.

A fold's row, read as a number with a digit for each place, is the lower the earlier the row
comes by its bytes. A cost is multiplied beyond all such numbers, and the row's is added: the
least sum is that of the first of the best.
"""

from foldedstrand.search import FAR, Prices, Search
from foldedstrand.tables import Tables

# The bytes of a row by their digits.
SIGNS = (40, 41, 46)


def place_values(size):
    values = [1]
    while len(values) < size:
        values.append(values[-1] * 3)
    values.reverse()
    return values


def first_best(numbers, strand):
    """What the first of the best folds costs, and then its bytes."""
    values = place_values(len(strand))
    scale = values[0] * 3
    # A search pays for pairs alone, so a row's number is told from that of the row of dots.
    dots = scale - 1
    opening = [-2 * value for value in values]
    closing = [-1 * value for value in values]
    prices = Prices(Tables(numbers, scale), FAR * scale, opening, closing, None, 1)
    total = Search(strand, prices).least()[0] + dots
    row = total % scale
    return [total // scale] + [SIGNS[row // value % 3] for value in values]
