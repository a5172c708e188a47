"""What the tests share: calls written by name, and answers taken apart."""

from looseleaves.desk import answers

TOP = 4294967295


def begins():
    return [0]


def leaf(first, caught, second, caught2):
    return [1, first, caught, second, caught2]


def drop(number):
    return [2, number]


def ways(number):
    return [3, number]


def orders():
    return [4]


def line(*calls):
    """The calls as the one list that is handed in."""
    return [number for call in calls for number in call]


def taken_apart(told):
    """The answers one by one, by the counts before them."""
    parts = []
    at = 0
    while at < len(told):
        end = at + 1 + told[at]
        assert end <= len(told), "a count goes beyond the end"
        parts.append(told[at + 1:end])
        at = end
    return parts


def each(*calls):
    """What each of the calls on one new heap answers."""
    return taken_apart(answers(line(*calls)))


def last(*calls):
    """What the last of the calls on one new heap answers."""
    return each(*calls)[-1]
