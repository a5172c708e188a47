"""The first row that has the fewest gaps."""

from looseleaves.rows import numbers_in, places_of


def gaps_between(row, place):
    """1 if there's a gap between the row's last leaf and the place behind it, else 0."""
    if len(row) == 0 or row[-1][3] == place[2]:
        return 0
    return 1


def made_longer_by_each(counted, places):
    """A (gaps, row) with one place more, for each place whose leaf isn't in the row yet."""
    row = counted[1]
    placed = numbers_in(row)
    free = [place for place in places if place[0] not in placed]
    return [(counted[0] + gaps_between(row, place), row + [place]) for place in free]


def best_by_ending(found):
    """Of those (gaps, row) that hold the same leaves and end with the same place only the least one."""
    best = {}
    for counted in found:
        row = counted[1]
        ending = (tuple(sorted(numbers_in(row))), row[-1])
        # Like numbers of gaps are told apart by the places, whose order is that of rows.
        if ending not in best or counted < best[ending]:
            best[ending] = counted
    return list(best.values())


def fewest_gaps(leaves):
    """(gaps, row) of the first row that has the fewest gaps, each leaf given as its ways; None if there's no row."""
    places = places_of(leaves)
    found = [(0, [])]
    # What may come behind, and with how many gaps, hangs on the leaves so far and the last place alone: so of all
    # beginnings with the same ending the least one is enough, and not every row has to be tried.
    for length in range(len(leaves)):
        longer = []
        for counted in found:
            longer.extend(made_longer_by_each(counted, places))
        found = best_by_ending(longer)
    return min(found, default=None)
