"""In which ways a leaf may lie, in which orders leaves may follow one another, and which are neighbours there."""

AS_TOLD = 0
TURNED = 1


def ways_of(first, caught, second, caught2):
    """The ways in which a leaf may lie, each as (AS_TOLD or TURNED, the word it begins with, the one it leads to)."""
    found = []
    if caught == second:
        found.append((AS_TOLD, first, caught2))
    if caught2 == first:
        found.append((TURNED, second, caught))
    return found


def places_of(leaves):
    """Each leaf in each of its ways, as (leaf, AS_TOLD or TURNED, begins with, leads to), in the order of rows."""
    places = []
    for number, found in enumerate(leaves):
        for way in found:
            places.append((number, way[0], way[1], way[2]))
    return places


def numbers_in(row):
    """The leaves of a row of places, one behind another."""
    return [place[0] for place in row]


def made_longer(row, places):
    """The row with one place more, for each place whose leaf isn't in it yet and that leaves no gap behind it."""
    if len(row) == 0:
        return [[place] for place in places]
    placed = numbers_in(row)
    word = row[-1][3]
    return [row + [place] for place in places if place[2] == word and place[0] not in placed]


def orders_of(leaves):
    """All orders of leaves, each leaf given as its ways; an order is a list of places."""
    places = places_of(leaves)
    orders = [[]]
    # Rows that are made longer in turn, each by places in turn, stay in the order that the document asks for.
    # A leaf with no way has no place, so that no row grows to the whole length.
    for length in range(len(leaves)):
        longer = []
        for row in orders:
            longer.extend(made_longer(row, places))
        orders = longer
    return orders


def orders_from(word, orders):
    """Those of the orders whose first leaf begins with the word; the order of no leaves has no first one."""
    return [order for order in orders if len(order) > 0 and order[0][2] == word]


def neighbours_in(row):
    """The pairs of leaves that lie side by side in a row, each as (the one ahead, the one right behind it)."""
    numbers = numbers_in(row)
    return list(zip(numbers, numbers[1:]))


def orders_with(pair, orders):
    """Those of the orders in which the second leaf of the pair comes right behind the first."""
    return [order for order in orders if pair in neighbours_in(order)]


def sure_pairs(orders):
    """The pairs of leaves that are neighbours in every order, by the first leaf, then the second."""
    if len(orders) == 0:
        return []
    pairs = neighbours_in(orders[0])
    for order in orders:
        beside = neighbours_in(order)
        pairs = [pair for pair in pairs if pair in beside]
    return sorted(pairs)
