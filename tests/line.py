"""What the tests share: calls written as numbers, and answers taken apart again."""

from editslots.slots import answers

KEEP, DROP, PUT = 0, 1, 2
LARGEST = 4294967295


def set_(k, items, octets=()):
    return [1, k, len(items), *items, len(octets), *octets]


def look(i):
    return [2, i]


def items(i):
    return [3, i]


def bytes_(i):
    return [4, i]


def apply(i, octets=()):
    return [5, i, len(octets), *octets]


def then(i, j, k):
    return [6, i, j, k]


def back(i, k, octets=()):
    return [7, i, k, len(octets), *octets]


def over(i, j, first, k):
    return [8, i, j, first, k]


def place(i, g, right):
    return [9, i, g, right]


def same(i, j):
    return [10, i, j]


def run(*calls):
    """The answers to a line of calls, one list a call."""
    given = answers([number for call in calls for number in call])
    taken = []
    at = 0
    while at < len(given):
        size = given[at]
        taken.append(given[at + 1:at + 1 + size])
        at += 1 + size
    if at != len(given) or len(taken) != len(calls):
        raise AssertionError(f"{len(calls)} calls answered by {given!r}")
    return taken


def reading(i):
    """Calls that tell slot i's edit whole."""
    return [items(i), bytes_(i)]


def readings():
    """Calls that tell all there is to see of the eight slots."""
    return [call for i in range(8) for call in (look(i), items(i), bytes_(i))]
