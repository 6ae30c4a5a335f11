"""Watches: reports that come one by one."""

from testwatch.arguments import check_most, check_plan
from testwatch.checks import are_units, is_index, is_partial_row, is_report
from testwatch.errors import NothingError, NumberError, ReportsError, SetError
from testwatch.families import Families, count_of


class Supposition:
    """Units that a watch takes for bad while a block lasts."""

    def __init__(self, watch, bad):
        self.bad = bad
        # Each block counts for itself, in whatever order blocks are left.
        self.depth = 0
        self._watch = watch

    def __enter__(self):
        self.depth += 1
        self._watch.heed(self)
        return self

    def __exit__(self, kind, value, trace):
        self.depth -= 1


class Watch:
    """The reports of a plan so far, and the sets of bad units that are left."""

    def __init__(self, plan, most):
        check_plan(plan)
        check_most(plan, most)
        self._plan = plan
        self._families = Families(plan, most)
        self._reports = (None,) * len(plan.tests)
        self._earlier = []
        self._suppositions = []

    @property
    def reports(self):
        """The reports so far, None where there is none yet."""
        return self._reports

    @reports.setter
    def reports(self, value):
        self.assign(value)

    @property
    def changes(self):
        """How many assignments and tellings there are to be taken back."""
        return len(self._earlier)

    def assign(self, reports):
        """Replace all reports."""
        if not is_partial_row(reports, len(self._plan.tests)):
            raise ReportsError("reports are a tuple with a report or None for each test")
        self._earlier.append(self._reports)
        self._reports = reports

    def tell(self, number, report):
        """Take the report of one test."""
        if not is_index(number, len(self._plan.tests)):
            raise NumberError("this is not the number of a test")
        if not is_report(report):
            raise ReportsError("a report is good, bad or silent")
        self.assign(self._reports[:number] + (report,) + self._reports[number + 1:])

    def undo(self):
        """Take back the last assignment or telling."""
        if not self._earlier:
            raise NothingError("there is nothing to be taken back")
        self._reports = self._earlier.pop()

    def left(self):
        """Yield, in order, the sets for which all reports so far are allowed."""
        yield from self._families.listed(self._family(()))

    def count(self):
        """Return how many sets are left."""
        return count_of(self._family(()))

    def supposing(self, *bad):
        """Return an object for a with statement in which these units are bad."""
        self._check_units(bad)
        return Supposition(self, bad)

    def count_supposing(self, *bad):
        """Return how many sets are left that have these units."""
        self._check_units(bad)
        return count_of(self._family(bad))

    def heed(self, supposition):
        """Take account of a supposition while its block lasts."""
        self._suppositions = [one for one in self._suppositions if one.depth > 0]
        self._suppositions.append(supposition)

    def _check_units(self, bad):
        if not are_units(bad, self._plan.many):
            raise SetError("suppositions are about different units of the plan")

    def _family(self, bad):
        """Return the family of the sets that are left and have these units."""
        family = self._families.explaining(self._reports)
        supposed = [unit for one in self._suppositions if one.depth > 0 for unit in one.bad]
        for unit in supposed + list(bad):
            family &= self._families.with_unit[unit]
        return family
