"""What words alone tell of leaves that may lie in just one way each; a leaf is given as this way."""


def words_of(ways):
    """Each word once, in the order in which leaves begin with them or lead to them."""
    words = []
    for way in ways:
        for word in (way[1], way[2]):
            if word not in words:
                words.append(word)
    return words


def joined(parts, begin, lead):
    """The parts, with those of the two words made one, which stands where the first of them stood."""
    together = []
    for part in parts:
        if begin in part or lead in part:
            together = together + part
    kept = []
    for part in parts:
        if part[0] == together[0]:
            kept.append(together)
        elif part[0] not in together:
            kept.append(part)
    return kept


def parts_of(ways):
    """The parts, each as a list of its words with the first one first, in the order of their first words."""
    parts = [[word] for word in words_of(ways)]
    for way in ways:
        parts = joined(parts, way[1], way[2])
    return parts


def too_many_at(word, ways):
    """How many leaves begin with the word beyond those that lead to it."""
    begun = len([way for way in ways if way[1] == word])
    led = len([way for way in ways if way[2] == word])
    return max(0, begun - led)


def too_many_in(part, ways):
    """How many leaves too many the words of a part have together."""
    return sum([too_many_at(word, ways) for word in part])


def least_runs(ways):
    """How few runs there must be, how many parts, and of each its first word, how many words, leaves too many."""
    parts = parts_of(ways)
    runs = 0
    told = []
    for part in parts:
        beyond = too_many_in(part, ways)
        runs += max(1, beyond)
        told.extend([part[0], len(part), beyond])
    return [runs, len(parts)] + told
