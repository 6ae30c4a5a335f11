"""Sets of units, in order."""

from itertools import combinations


def sets_up_to(many, most):
    """Return all sets of at most most out of many units, in order."""
    sets = []
    for size in range(most + 1):
        sets.extend(list(combinations(range(many), size)))
    return sets
