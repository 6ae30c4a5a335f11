"""Choices: which of the three reports are allowed, as a number.

A choice is the sum of 1 if bad is allowed, 2 if good is and 4 if silent is. So
one & other is what two choices have in common, and 0 is a choice of nothing.
"""

BAD = 1
GOOD = 2
SILENT = 4
CHOICE_OF = {"bad": 1, "good": 2, "silent": 4}
# The first report of each choice, in the order bad, good, silent.
FIRST_OF = (None, "bad", "good", "bad", "silent", "bad", "good", "bad")


def choice_of(reports):
    """Return the choice of these different reports."""
    return sum([CHOICE_OF[report] for report in reports])


def choices_under(plan, bad):
    """Yield, for each test of a plan, what it may report if just these units are bad."""
    words = plan.choices
    is_bad = [unit in bad for unit in range(plan.many)]
    truth = [BAD if unit in bad else GOOD for unit in range(plan.many)]
    for tester, tested in plan.tests:
        yield words[tester] if is_bad[tester] else truth[tested]


def is_explained(plan, reports, bad):
    """Tell whether a set explains the reports of a plan."""
    for report, choice in zip(reports, choices_under(plan, bad)):
        if not choice & CHOICE_OF[report]:
            return False
    return True
