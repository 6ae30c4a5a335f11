"""Marks: what a set allows for all tests at once, as bits.

The marks of a set are three integers, one for each report. Bit k tells whether
that report is allowed for test k. Two sets are thus compared in a few steps,
however many tests there are.
"""

from testwatch.choices import BAD, GOOD, SILENT
from testwatch.sets import sets_up_to


def all_bits(many):
    """Return the bits of so many tests."""
    return (1 << many) - 1


class UnitBits:
    """For each unit, the bits of the tests that it makes and of those about it."""

    def __init__(self, plan, tests):
        self.every = all_bits(len(tests))
        self.made = [0] * plan.many
        self.about = [0] * plan.many
        for number, (tester, tested) in enumerate(tests):
            self.made[tester] |= 1 << number
            self.about[tested] |= 1 << number
        self._words = plan.choices

    def marks_of(self, bad):
        """Return the marks of a set."""
        untrue = accused = 0
        bads = goods = silents = 0
        for unit in bad:
            made = self.made[unit]
            words = self._words[unit]
            untrue |= made
            accused |= self.about[unit]
            if words & BAD:
                bads |= made
            if words & GOOD:
                goods |= made
            if words & SILENT:
                silents |= made
        true = self.every ^ untrue
        return bads | true & accused, goods | true & ~accused, silents


def apart_bits(plan, tests, most):
    """Return as keys, for every two sets, the bits of the tests that tell them apart."""
    bits = UnitBits(plan, tests)
    marks = [bits.marks_of(bad) for bad in sets_up_to(plan.many, most)]
    found = {}
    for at, (bads, goods, silents) in enumerate(marks):
        for others in marks[at + 1:]:
            found[bits.every ^ (bads & others[0] | goods & others[1] | silents & others[2])] = True
    return found
