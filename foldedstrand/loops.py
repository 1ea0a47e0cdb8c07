"""A line of calls about one table of costs, and what each call is answered."""

from foldedstrand.counting import count_folds, count_with_pair
from foldedstrand.folds import fold_cost, partners_of
from foldedstrand.ranking import first_best
from foldedstrand.strands import is_strand
from foldedstrand.tables import Tables, are_tables

COSTS = 1
COST = 2
BEST = 3
COUNT = 4


class Line:
    """The calls, how far they are read, and the 132 numbers that the latest costs has set."""

    def __init__(self, calls):
        self.calls = calls
        self.place = 0
        self.numbers = []

    def read_number(self):
        number = self.calls[self.place]
        self.place += 1
        return number

    def read_row(self):
        size = self.read_number()
        row = self.calls[self.place:self.place + size]
        self.place += size
        return row


def answers(calls):
    line = Line(calls)
    answered = []
    while line.place < len(calls):
        answer = answer_call(line)
        answered.append(len(answer))
        answered.extend(answer)
    return answered


def answer_call(line):
    call = line.read_number()
    if call == COSTS:
        return answer_costs(line)
    if call == COST:
        return answer_cost(line)
    if call == BEST:
        return answer_best(line)
    if call == COUNT:
        return answer_count(line)
    return answer_pair(line)


def answer_costs(line):
    numbers = line.read_row()
    if not are_tables(numbers):
        return [-1]
    line.numbers = numbers
    return [0]


def answer_cost(line):
    strand = line.read_row()
    fold = line.read_row()
    if not is_strand(strand):
        return [-1]
    partners = partners_of(strand, fold)
    if partners is None:
        return [-3]
    return [0, fold_cost(Tables(line.numbers, 1), strand, partners)]


def answer_best(line):
    strand = line.read_row()
    if not is_strand(strand):
        return [-1]
    return [0] + first_best(line.numbers, strand)


def answer_count(line):
    strand = line.read_row()
    if not is_strand(strand):
        return [-1]
    return count_folds(line.numbers, strand)


def answer_pair(line):
    left = line.read_number()
    right = line.read_number()
    strand = line.read_row()
    if not is_strand(strand) or not 0 <= left < right < len(strand):
        return [-1]
    return count_with_pair(line.numbers, strand, left, right)
