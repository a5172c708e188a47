"""In which ways a leaf may lie, and in which orders leaves may follow one another."""

AS_TOLD = 0
TURNED = 1


def ways_of(first, caught, second, caught2):
    """The ways in which a leaf may lie, each as (AS_TOLD or TURNED, the word it begins with, the one it leads to)."""
    found = []
    if caught == second:
        found.append((AS_TOLD, first, caught2))
    if caught2 == first:
        found.append((TURNED, second, caught))
    return found


def places_of(leaves):
    """Each leaf in each of its ways, as (leaf, AS_TOLD or TURNED, begins with, leads to), in the order of rows."""
    places = []
    for number, found in enumerate(leaves):
        for way in found:
            places.append((number, way[0], way[1], way[2]))
    return places


def made_longer(row, places):
    """The row with one place more, for each place whose leaf isn't in it yet and that leaves no gap behind it."""
    if len(row) == 0:
        return [[place] for place in places]
    placed = [earlier[0] for earlier in row]
    word = row[-1][3]
    return [row + [place] for place in places if place[2] == word and place[0] not in placed]


def orders_of(leaves):
    """All orders of leaves, each leaf given as its ways; an order is a list of places."""
    places = places_of(leaves)
    orders = [[]]
    # Rows that are made longer in turn, each by places in turn, stay in the order that the document asks for.
    # A leaf with no way has no place, so that no row grows to the whole length.
    for length in range(len(leaves)):
        longer = []
        for row in orders:
            longer.extend(made_longer(row, places))
        orders = longer
    return orders
