"""What the tests share: calls written by name, and answers taken apart."""

from looseleaves.desk import answers

TOP = 4294967295


def begins():
    return [0]


def leaf(first, caught, second, caught2):
    return [1, first, caught, second, caught2]


def drop(number):
    return [2, number]


def ways(number):
    return [3, number]


def orders():
    return [4]


def from_word(word):
    return [5, word]


def runs():
    return [6]


def sure():
    return [7]


def behind(first, second):
    return [8, first, second]


def least():
    return [9]


def simple(begin, lead):
    """A leaf that may lie as it's told; turned, too, only if it leads to the word that it begins with."""
    return leaf(begin, 9000, 9000, lead)


def turned(begin, lead):
    """A leaf that may lie turned; as it's told, too, only if it leads to the word that it begins with."""
    return leaf(9000, lead, begin, 9000)


def both(word, other):
    """A leaf that may lie both ways: as it's told from word to word, turned from other to other."""
    return leaf(word, other, other, word)


NO_WAY = leaf(1, 2, 3, 4)


def line(*calls):
    """The calls as the one list that is handed in."""
    return [number for call in calls for number in call]


def taken_apart(told):
    """The answers one by one, by the counts before them."""
    parts = []
    at = 0
    while at < len(told):
        end = at + 1 + told[at]
        assert end <= len(told), "a count goes beyond the end"
        parts.append(told[at + 1:end])
        at = end
    return parts


def each(*calls):
    """What each of the calls on one new heap answers."""
    return taken_apart(answers(line(*calls)))


def last(*calls):
    """What the last of the calls on one new heap answers."""
    return each(*calls)[-1]
