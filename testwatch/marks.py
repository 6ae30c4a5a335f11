"""Marks: what a set allows for all tests at once, as bits.

The marks of a set are three integers, one for each report. Bit k tells whether
that report is allowed for test k. Two sets are thus compared in a few steps,
however many tests there are.
"""

from testwatch.choices import CHOICE_OF, choices_under
from testwatch.sets import sets_up_to


def _marks_of(plan, tests, bad):
    pairs = [(choice, 1 << number) for number, choice in enumerate(choices_under(plan, tests, bad))]
    return tuple([sum([bit for choice, bit in pairs if choice & single]) for single in CHOICE_OF.values()])


def all_bits(many):
    """Return the bits of so many tests."""
    return (1 << many) - 1


def apart_bits(plan, tests, most):
    """Return as keys, for every two sets, the bits of the tests that tell them apart."""
    marks = [_marks_of(plan, tests, bad) for bad in sets_up_to(plan.many, most)]
    every = all_bits(len(tests))
    bits = {}
    for at, (bads, goods, silents) in enumerate(marks):
        for others in marks[at + 1:]:
            bits[every ^ (bads & others[0] | goods & others[1] | silents & others[2])] = True
    return bits
