"""Tables: what tests may report, worked out once for many sets.

What a test may report depends on two units only, so that four answers for
each test are enough for all sets. A line of a table is (tester, tested,
choices); the keys of choices tell whether the tester is bad and whether the
tested unit is.
"""


def table_of(plan, tests):
    """Return a line for each of these tests of the plan's units."""
    table = []
    for tester, tested in tests:
        choices = {}
        for bad in ((), (tester,), (tested,), (tester, tested)):
            choices[(tester in bad, tested in bad)] = plan.may_report((tester, tested), bad)
        table.append((tester, tested, choices))
    return table


def allowed_in(line, bad):
    """Return the reports that the test of a line may give if just these units are bad."""
    tester, tested, choices = line
    return choices[(tester in bad, tested in bad)]


def is_explained(table, reports, bad):
    """Tell whether a set explains reports; None stands for one that is not known."""
    for line, report in zip(table, reports):
        if report is not None and report not in allowed_in(line, bad):
            return False
    return True
