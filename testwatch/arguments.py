"""Checks of the arguments that many functions have in common."""

from testwatch.checks import is_index, is_row, is_set, is_test
from testwatch.errors import NumberError, PlanError, ReportsError, SetError, TestsError
from testwatch.plans import Plan


def check_plan(plan):
    """Raise PlanError unless this is a plan."""
    if not isinstance(plan, Plan):
        raise PlanError("this is not a plan")


def check_most(plan, most):
    """Raise NumberError unless the plan can have so many bad units."""
    if not is_index(most, plan.many + 1):
        raise NumberError("this is not an integer from 0 to the number of units")


def check_reports(plan, reports):
    """Raise ReportsError unless these are reports of the plan."""
    if not is_row(reports, len(plan.tests)):
        raise ReportsError("reports are a tuple with a report for each test")


def check_set(plan, bad):
    """Raise SetError unless this is a set of the plan."""
    if not is_set(bad, plan.many):
        raise SetError("a set is an ascending tuple of different units")


def check_new_test(plan, test):
    """Raise TestsError unless this test can be added to the plan."""
    if not is_test(test, plan.many) or test in plan.tests:
        raise TestsError("a new test is a pair of different units that is not in the plan")
