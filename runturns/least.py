"""Least lots of things: those for which something holds while it holds for none that lies within."""

from itertools import combinations


def lies_in(lot, other):
    """Whether all things of a lot are in another one."""
    return all([thing in other for thing in lot])


def least_lots(things, most, holds):
    """The ascending list of the lists of at most so many things, in their order, that are least of those that hold."""
    found = []
    # Those of fewer things come first, so each list that lies within another one is found ahead of it.
    for size in range(most + 1):
        for some in combinations(things, size):
            if not any([lies_in(lesser, some) for lesser in found]) and holds(list(some)):
                found.append(list(some))
    return sorted(found)
