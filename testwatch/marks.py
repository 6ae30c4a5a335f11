"""Marks: what a set allows for all tests at once, as bits.

The marks of a set are three integers, one for each report in the order of
REPORTS. Bit k tells whether that report is allowed for test k. Two sets are
thus compared in a few steps, however many tests there are.
"""

from testwatch.checks import REPORTS
from testwatch.tables import allowed_in, table_of


def _marks_of_set(table, bad):
    marks = [0, 0, 0]
    for number, line in enumerate(table):
        allowed = allowed_in(line, bad)
        for at, report in enumerate(REPORTS):
            if report in allowed:
                marks[at] |= 1 << number
    return tuple(marks)


def marks_of(plan, tests, sets):
    """Return the marks of each set for these tests of the plan's units."""
    table = table_of(plan, tests)
    return [_marks_of_set(table, bad) for bad in sets]


def all_bits(many):
    """Return the bits of so many tests."""
    return (1 << many) - 1


def bits_in_common(one, other):
    """Return the bits of the tests that do not tell two sets with these marks apart."""
    return one[0] & other[0] | one[1] & other[1] | one[2] & other[2]
