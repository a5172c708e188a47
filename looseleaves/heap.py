"""The heap of leaves, and what each call on it answers."""

from looseleaves.gaps import fewest_gaps
from looseleaves.parts import least_runs
from looseleaves.rows import orders_from, orders_of, orders_with, sure_pairs, ways_of

MOST_LEAVES = 6
HIGHEST_WORD = 9999

BAD_WORD = -1
NO_SUCH_LEAF = -2
NOT_JUST_ONE_WAY = -4
HEAP_IS_FULL = -5
NO_ROW = -6


def are_words(first, caught, second, caught2):
    """Whether two pages may have these words: a catchword may be 0, a first word may not."""
    if first == 0 or second == 0:
        return False
    return max(first, caught, second, caught2) <= HIGHEST_WORD


def leaves_and_ways(row):
    """The leaves of a row of places, each with how it lies."""
    told = []
    for place in row:
        told.extend([place[0], place[1]])
    return told


def count_and_first(orders):
    """How many orders there are, then the first one's leaves, each with how it lies."""
    if len(orders) == 0:
        return [0]
    return [len(orders)] + leaves_and_ways(orders[0])


class Heap:
    """Leaves by their numbers. Each call answers a list of whole numbers, or a refusal alone."""

    def __init__(self):
        # Of a leaf only the ways in which it may lie are kept: no call asks for more of it.
        self.leaves = []

    def begins(self):
        self.leaves = []
        return [0]

    def leaf(self, first, caught, second, caught2):
        if not are_words(first, caught, second, caught2):
            return [BAD_WORD]
        if len(self.leaves) >= MOST_LEAVES:
            return [HEAP_IS_FULL]
        self.leaves.append(ways_of(first, caught, second, caught2))
        return [len(self.leaves) - 1]

    def drop(self, number):
        if number >= len(self.leaves):
            return [NO_SUCH_LEAF]
        self.leaves.pop(number)
        return [len(self.leaves)]

    def ways(self, number):
        if number >= len(self.leaves):
            return [NO_SUCH_LEAF]
        answered = [len(self.leaves[number])]
        for way in self.leaves[number]:
            answered.extend([way[0], way[1], way[2]])
        return answered

    def orders(self):
        return count_and_first(orders_of(self.leaves))

    def from_word(self, word):
        return count_and_first(orders_from(word, orders_of(self.leaves)))

    def runs(self):
        fewest = fewest_gaps(self.leaves)
        if fewest is None:
            return [NO_ROW]
        return [fewest[0]] + leaves_and_ways(fewest[1])

    def sure(self):
        pairs = sure_pairs(orders_of(self.leaves))
        answered = [len(pairs)]
        for pair in pairs:
            answered.extend([pair[0], pair[1]])
        return answered

    def behind(self, first, second):
        if max(first, second) >= len(self.leaves):
            return [NO_SUCH_LEAF]
        return [len(orders_with((first, second), orders_of(self.leaves)))]

    def least(self):
        for found in self.leaves:
            if len(found) != 1:
                return [NOT_JUST_ONE_WAY]
        return least_runs([found[0] for found in self.leaves])
