"""Confusions: how many bad units a plan finds, and what shows that it finds no more."""

from testwatch.arguments import check_most, check_plan, check_set
from testwatch.checks import REPORTS, is_row, is_set
from testwatch.errors import ApartError
from testwatch.marks import all_bits, bits_in_common, marks_of
from testwatch.sets import sets_up_to
from testwatch.tables import is_explained, table_of


def _first_in_common(plan, number, one, other):
    """Return the first report of a test that both sets allow, or None."""
    under_one = plan.allowed(number, one)
    under_other = plan.allowed(number, other)
    for report in REPORTS:
        if report in under_one and report in under_other:
            return report
    return None


def told_apart(plan, one, other):
    """Return the number of the first test that tells two sets apart, or None."""
    check_plan(plan)
    check_set(plan, one)
    check_set(plan, other)
    for number in range(len(plan.tests)):
        if _first_in_common(plan, number, one, other) is None:
            return number
    return None


def common(plan, one, other):
    """Return reports that both sets explain."""
    number = told_apart(plan, one, other)
    if number is not None:
        raise ApartError(number)
    return tuple([_first_in_common(plan, at, one, other) for at in range(len(plan.tests))])


def _first_confused(plan, most):
    """Return the first two sets of at most so many units that are not told apart, or None."""
    sets = sets_up_to(plan.many, most)
    marks = marks_of(plan, plan.tests, sets)
    every = all_bits(len(plan.tests))
    for at, bad in enumerate(sets):
        for later in range(at + 1, len(sets)):
            if bits_in_common(marks[at], marks[later]) == every:
                return bad, sets[later]
    return None


def confusion(plan, most):
    """Return two sets and reports that both explain, or None if the plan finds most."""
    check_plan(plan)
    check_most(plan, most)
    confused = _first_confused(plan, most)
    if confused is None:
        return None
    one, other = confused
    return one, other, common(plan, one, other)


def is_confusion(plan, most, thing):
    """Tell whether any value shows that the plan does not find most."""
    check_plan(plan)
    check_most(plan, most)
    if not isinstance(thing, tuple) or len(thing) != 3:
        return False
    one, other, reports = thing
    if not is_set(one, plan.many) or not is_set(other, plan.many) or one == other:
        return False
    if len(one) > most or len(other) > most or not is_row(reports, len(plan.tests)):
        return False
    table = table_of(plan, plan.tests)
    return is_explained(table, reports, one) and is_explained(table, reports, other)


def finds(plan, most):
    """Tell whether every two sets of at most so many units are told apart."""
    check_plan(plan)
    check_most(plan, most)
    return _first_confused(plan, most) is None


def strength(plan):
    """Return the greatest number that the plan finds."""
    check_plan(plan)
    sets = sets_up_to(plan.many, plan.many)
    marks = marks_of(plan, plan.tests, sets)
    every = all_bits(len(plan.tests))
    # Sets are in order of their size, so that the first set that is not told
    # apart from an earlier one is as small as any.
    for at, bad in enumerate(sets):
        for earlier in range(at):
            if bits_in_common(marks[earlier], marks[at]) == every:
                return len(bad) - 1
    return plan.many
