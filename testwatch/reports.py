"""Reports: which sets explain them, and what is sure."""

from testwatch.arguments import check_most, check_plan, check_reports, check_set
from testwatch.checks import is_row
from testwatch.choices import is_explained
from testwatch.errors import NoneError
from testwatch.families import Families


def are_reports(plan, thing):
    """Tell whether any value is reports of the plan."""
    check_plan(plan)
    return is_row(thing, len(plan.tests))


def explains(plan, reports, bad):
    """Tell whether a set explains the reports."""
    check_plan(plan)
    check_reports(plan, reports)
    check_set(plan, bad)
    return is_explained(plan, reports, bad)


def all_explaining(plan, reports, most):
    """Return the families of the plan, and the one of the sets that explain the reports."""
    check_plan(plan)
    check_reports(plan, reports)
    check_most(plan, most)
    families = Families(plan, most)
    return families, families.explaining(reports)


def explanations(plan, reports, most):
    """Yield, in order, all sets of at most so many units that explain the reports."""
    families, family = all_explaining(plan, reports, most)
    yield from families.listed(family)


def _explaining_with_units(plan, reports, most):
    """Return the family of the sets that explain the reports, and for each unit what of it has the unit."""
    families, family = all_explaining(plan, reports, most)
    if not family:
        raise NoneError("no set of so few units explains the reports")
    return family, [family & with_unit for with_unit in families.with_unit]


def sure_bad(plan, reports, most):
    """Return the units that are in all sets that explain the reports."""
    family, parts = _explaining_with_units(plan, reports, most)
    return tuple([unit for unit, part in enumerate(parts) if part == family])


def sure_good(plan, reports, most):
    """Return the units that are in none of the sets that explain the reports."""
    _, parts = _explaining_with_units(plan, reports, most)
    return tuple([unit for unit, part in enumerate(parts) if part == 0])
