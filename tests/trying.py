"""What the calls should answer, found from every row there could be; and heaps of leaves to ask for."""

import itertools
import random

from tests.lines import leaf


def heaps(seed, size):
    """That many heaps of 1 to 5 leaves with few words, so that many follow one another; each leaf may lie in a way."""
    source = random.Random(seed)
    for turn in range(size):
        leaves = []
        for number in range(source.choice((1, 2, 2, 3, 3, 4, 4, 5))):
            first, second, lead = source.randint(1, 3), source.randint(1, 3), source.randint(0, 3)
            call = leaf(first, second, second, lead) if source.randint(0, 1) else leaf(first, lead, second, first)
            leaves.append(call)
        yield leaves


def lies(call, way):
    """What the leaf of a call begins with and leads to, or None where it may not lie so."""
    pages = [(call[1], call[2]), (call[3], call[4])]
    upper, lower = pages if way == 0 else pages[::-1]
    return (upper[0], lower[1]) if upper[1] == lower[0] else None


def rows_by_trying(leaves):
    """Every row in order, as (gaps, [(leaf, way)..], the words [(begins with, leads to)..])."""
    found = []
    for numbers in itertools.permutations(range(len(leaves))):
        for lying in itertools.product((0, 1), repeat=len(leaves)):
            words = [lies(leaves[number], way) for number, way in zip(numbers, lying)]
            if None not in words:
                gaps = sum(ahead[1] != behind[0] for ahead, behind in zip(words, words[1:]))
                found.append((gaps, list(zip(numbers, lying)), words))
    return sorted(found, key=lambda row: row[1])


def flat(pairs):
    return [number for pair in pairs for number in pair]


def counted(rows):
    return [len(rows)] + (flat(rows[0][1]) if rows else [])


def orders_among(rows):
    return [row for row in rows if row[0] == 0]


def told_of_orders(rows):
    return counted(orders_among(rows))


def told_of_from(rows, word):
    return counted([row for row in orders_among(rows) if row[2] and row[2][0][0] == word])


def told_of_runs(rows):
    if not rows:
        return [-6]
    fewest = min(row[0] for row in rows)
    return [fewest] + flat([row[1] for row in rows if row[0] == fewest][0])


def told_of_behind(rows, first, second):
    found = 0
    for row in orders_among(rows):
        numbers = [number for number, way in row[1]]
        found += second in numbers[1:] and numbers[numbers.index(second, 1) - 1] == first
    return [found]


def told_of_sure(rows, size):
    number = len(orders_among(rows))
    pairs = itertools.product(range(size), repeat=2)
    found = [pair for pair in pairs if number > 0 and told_of_behind(rows, *pair) == [number]]
    return [len(found)] + flat(found)


def told_of_least(leaves):
    """The answer of least where each leaf may lie in just one way; parts are found by walking from word to word."""
    edges = [lies(call, 0) or lies(call, 1) for call in leaves]
    words = list(dict.fromkeys(flat(edges)))
    parts, seen = [], set()
    for word in words:
        if word in seen:
            continue
        part, waiting = set(), [word]
        while waiting:
            here = waiting.pop()
            if here not in part:
                part.add(here)
                waiting.extend(flat(edge for edge in edges if here in edge))
        seen |= part
        begun, led = [edge[0] for edge in edges], [edge[1] for edge in edges]
        parts.append((word, len(part), sum(max(0, begun.count(one) - led.count(one)) for one in part)))
    return [sum(part[2] or 1 for part in parts), len(parts)] + flat(parts)
