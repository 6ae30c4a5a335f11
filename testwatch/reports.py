"""Reports: which sets explain them, and what is sure."""

from testwatch.arguments import check_most, check_plan, check_reports, check_set
from testwatch.checks import is_row
from testwatch.errors import NoneError
from testwatch.sets import sets_up_to
from testwatch.tables import is_explained, table_of


def are_reports(plan, thing):
    """Tell whether any value is reports of the plan."""
    check_plan(plan)
    return is_row(thing, len(plan.tests))


def explains(plan, reports, bad):
    """Tell whether a set explains the reports."""
    check_plan(plan)
    check_reports(plan, reports)
    check_set(plan, bad)
    return is_explained(table_of(plan, plan.tests), reports, bad)


def explanations(plan, reports, most):
    """Yield, in order, all sets of at most so many units that explain the reports."""
    check_plan(plan)
    check_reports(plan, reports)
    check_most(plan, most)
    table = table_of(plan, plan.tests)
    for bad in sets_up_to(plan.many, most):
        if is_explained(table, reports, bad):
            yield bad


def _some_explanations(plan, reports, most):
    sets = list(explanations(plan, reports, most))
    if not sets:
        raise NoneError("no set of so few units explains the reports")
    return sets


def sure_bad(plan, reports, most):
    """Return the units that are in all sets that explain the reports."""
    sets = _some_explanations(plan, reports, most)
    return tuple([unit for unit in range(plan.many) if all([unit in bad for bad in sets])])


def sure_good(plan, reports, most):
    """Return the units that are in none of the sets that explain the reports."""
    sets = _some_explanations(plan, reports, most)
    return tuple([unit for unit in range(plan.many) if not any([unit in bad for bad in sets])])
