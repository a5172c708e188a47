"""The desk: takes a list of calls on one new heap, and answers them one behind another."""

from looseleaves.heap import Heap

BEGINS = 0
LEAF = 1
DROP = 2
WAYS = 3
ORDERS = 4
FROM_WORD = 5
RUNS = 6
SURE = 7
BEHIND = 8

# How many whole numbers stand behind the number of each call, from begins (0) to least (9).
SIZES = (0, 4, 1, 1, 0, 1, 0, 0, 2, 0)


def answer(heap, call, given):
    """What one call answers; given are the whole numbers behind its number."""
    if call == BEGINS:
        return heap.begins()
    if call == LEAF:
        return heap.leaf(given[0], given[1], given[2], given[3])
    if call == DROP:
        return heap.drop(given[0])
    if call == WAYS:
        return heap.ways(given[0])
    if call == ORDERS:
        return heap.orders()
    if call == FROM_WORD:
        return heap.from_word(given[0])
    if call == RUNS:
        return heap.runs()
    if call == SURE:
        return heap.sure()
    if call == BEHIND:
        return heap.behind(given[0], given[1])
    return heap.least()


def answers(calls):
    """For each call, in order, how many numbers are answered, then these."""
    heap = Heap()
    told = []
    at = 0
    while at < len(calls):
        end = at + 1 + SIZES[calls[at]]
        answered = answer(heap, calls[at], calls[at + 1:end])
        told.append(len(answered))
        told.extend(answered)
        at = end
    return told
