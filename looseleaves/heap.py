"""The heap of leaves, and what each call on it answers."""

from looseleaves.rows import orders_of, ways_of

MOST_LEAVES = 6
HIGHEST_WORD = 9999

BAD_WORD = -1
NO_SUCH_LEAF = -2
HEAP_IS_FULL = -5


def are_words(first, caught, second, caught2):
    """Whether two pages may have these words: a catchword may be 0, a first word may not."""
    if first == 0 or second == 0:
        return False
    return max(first, caught, second, caught2) <= HIGHEST_WORD


def count_and_first(orders):
    """How many orders there are, then the first one's leaves, each with how it lies."""
    answered = [len(orders)]
    if len(orders) > 0:
        for place in orders[0]:
            answered.append(place[0])
            answered.append(place[1])
    return answered


class Heap:
    """Leaves by their numbers. Each call answers a list of whole numbers, or a refusal alone."""

    def __init__(self):
        # Of a leaf only the ways in which it may lie are kept: no call asks for more of it.
        self.leaves = []

    def begins(self):
        self.leaves = []
        return [0]

    def leaf(self, first, caught, second, caught2):
        if not are_words(first, caught, second, caught2):
            return [BAD_WORD]
        if len(self.leaves) >= MOST_LEAVES:
            return [HEAP_IS_FULL]
        self.leaves.append(ways_of(first, caught, second, caught2))
        return [len(self.leaves) - 1]

    def drop(self, number):
        if number >= len(self.leaves):
            return [NO_SUCH_LEAF]
        self.leaves.pop(number)
        return [len(self.leaves)]

    def ways(self, number):
        if number >= len(self.leaves):
            return [NO_SUCH_LEAF]
        answered = [len(self.leaves[number])]
        for way in self.leaves[number]:
            answered.extend([way[0], way[1], way[2]])
        return answered

    def orders(self):
        return count_and_first(orders_of(self.leaves))
