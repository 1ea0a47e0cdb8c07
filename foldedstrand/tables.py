"""The tables of costs, taken apart."""

from foldedstrand.strands import LONGEST

LARGEST = 10000


def are_tables(numbers):
    return all([-LARGEST <= number <= LARGEST for number in numbers])


def stretched(numbers):
    """The last number stands for every larger count of letters, too."""
    return numbers + [numbers[-1]] * (LONGEST - len(numbers))


class Tables:
    """The tables' parts; each number is multiplied by scale."""

    def __init__(self, numbers, scale):
        scaled = [number * scale for number in numbers]
        self.stacks = scaled[0:36]
        self.ends = stretched(scaled[36:67])
        self.sides = stretched(scaled[67:98])
        self.both_sides = stretched(scaled[98:129])
        self.many_once = scaled[129]
        self.many_pair = scaled[130]
        self.many_letter = scaled[131]
