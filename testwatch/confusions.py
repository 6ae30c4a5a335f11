"""Confusions: how many bad units a plan finds, and what shows that it finds no more."""

from testwatch.arguments import check_most, check_plan, check_set
from testwatch.checks import is_row, is_set
from testwatch.choices import FIRST_OF, choices_under, is_explained
from testwatch.errors import ApartError
from testwatch.families import Families
from testwatch.partners import Partners


def _check_pair(plan, one, other):
    check_plan(plan)
    check_set(plan, one)
    check_set(plan, other)


def _shared_choices(plan, one, other):
    """Yield, for each test, the choice that two sets have in common."""
    for under_one, under_other in zip(choices_under(plan, one), choices_under(plan, other)):
        yield under_one & under_other


def told_apart(plan, one, other):
    """Return the number of the first test that tells two sets apart, or None."""
    _check_pair(plan, one, other)
    for number, choice in enumerate(_shared_choices(plan, one, other)):
        if choice == 0:
            return number
    return None


def common(plan, one, other):
    """Return reports that both sets explain."""
    _check_pair(plan, one, other)
    reports = []
    for number, choice in enumerate(_shared_choices(plan, one, other)):
        if choice == 0:
            raise ApartError(number)
        reports.append(FIRST_OF[choice])
    return tuple(reports)


def _first_confused(plan, most):
    """Return the first two sets of at most so many units that are not told apart, or None."""
    families = Families(plan, most)
    partners = Partners(plan, families)
    later = families.everything
    for at, bad in enumerate(families.sets):
        later ^= 1 << at
        family = partners.among(later, bad)
        if family:
            return bad, families.first(family)
    return None


def confusion(plan, most):
    """Return two sets and reports that both explain, or None if the plan finds most."""
    check_plan(plan)
    check_most(plan, most)
    confused = _first_confused(plan, most)
    if confused is None:
        return None
    one, other = confused
    return one, other, common(plan, one, other)


def is_confusion(plan, most, thing):
    """Tell whether any value shows that the plan does not find most."""
    check_plan(plan)
    check_most(plan, most)
    if not isinstance(thing, tuple) or len(thing) != 3:
        return False
    one, other, reports = thing
    if not is_set(one, plan.many) or not is_set(other, plan.many) or one == other:
        return False
    if len(one) > most or len(other) > most or not is_row(reports, len(plan.tests)):
        return False
    return is_explained(plan, reports, one) and is_explained(plan, reports, other)


def finds(plan, most):
    """Tell whether every two sets of at most so many units are told apart."""
    check_plan(plan)
    check_most(plan, most)
    return _first_confused(plan, most) is None


def strength(plan):
    """Return the greatest number that the plan finds."""
    check_plan(plan)
    families = Families(plan, plan.many)
    partners = Partners(plan, families)
    earlier = 0
    # Sets are in order of their size, so that the first set that is not told
    # apart from an earlier one is as small as any.
    for at, bad in enumerate(families.sets):
        if partners.among(earlier, bad):
            return len(bad) - 1
        earlier |= 1 << at
    return plan.many
