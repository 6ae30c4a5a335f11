"""Families: many sets of units at once, as a number.

Bit k of a family tells whether the k-th set, in the order of sets, is in it.
What a test says about all sets of a plan is thus worked out in a few steps.
"""

from math import comb

from testwatch.choices import BAD, CHOICE_OF, GOOD
from testwatch.sets import sets_up_to


def _with_units_by_size(many, most):
    """Return, for each size, the families with each unit, among the sets of this size alone."""
    by_size = [[]]
    for others in range(many):
        if others < most:
            by_size.append([0] * others)
        longer = [[0] * (others + 1)]
        for size in range(1, len(by_size)):
            # With one more unit before the others, the sets that have it come first.
            first = comb(others, size - 1)
            with_other = [among | beyond << first for among, beyond in zip(by_size[size - 1], by_size[size])]
            longer.append([(1 << first) - 1] + with_other)
        by_size = longer
    return by_size


def _with_units(many, most):
    """Return for each unit the family of the sets of at most so many units that have it."""
    families = [0] * many
    before = 0
    for size, of_size in enumerate(_with_units_by_size(many, most)):
        families = [family | more << before for family, more in zip(families, of_size)]
        before += comb(many, size)
    return families


class Families:
    """Families of the sets of at most so many units of a plan."""

    def __init__(self, plan, most):
        self.sets = sets_up_to(plan.many, most)
        self.everything = (1 << len(self.sets)) - 1
        self.with_unit = _with_units(plan.many, most)
        self.without_unit = [self.everything ^ family for family in self.with_unit]
        self._plan = plan

    def allowing(self, test, choice):
        """Return the family of the sets that allow a test some report of a choice."""
        tester, tested = test
        family = 0
        if choice & BAD:
            family |= self.with_unit[tested]
        if choice & GOOD:
            family |= self.without_unit[tested]
        family &= self.without_unit[tester]
        if choice & self._plan.choices[tester]:
            family |= self.with_unit[tester]
        return family

    def explaining(self, reports):
        """Return the family of the sets that explain reports; None stands for one that is not known."""
        family = self.everything
        for test, report in zip(self._plan.tests, reports):
            if report is not None:
                family &= self.allowing(test, CHOICE_OF[report])
        return family

    def most_left(self, family, test):
        """Return how many sets of a family can be left by a report of a test."""
        return max([count_of(family & self.allowing(test, choice)) for choice in CHOICE_OF.values()])

    def listed(self, family):
        """Return the sets that are in a family, in order."""
        digits = f"{family:b}"
        return [bad for bad, digit in zip(self.sets, digits[::-1]) if digit == "1"]

    def first(self, family):
        """Return the first set of a family that has one."""
        lowest = family & -family
        return self.sets[lowest.bit_length() - 1]


def count_of(family):
    """Return how many sets are in a family."""
    return f"{family:b}".count("1")
