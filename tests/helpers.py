"""What several test files use."""

import unittest
from itertools import combinations, permutations
from random import Random

from testwatch.errors import WatchError
from testwatch.plans import Plan
from testwatch.units import Harsh, Mild, Mute, Quiet, QuietHarsh, QuietMild, Sure, Unit

# The table of [10], written out.
WORDS = {
    'plain': ('bad', 'good'),
    'quiet': ('bad', 'good', 'silent'),
    'mild': ('good',),
    'harsh': ('bad',),
    'quietmild': ('good', 'silent'),
    'quietharsh': ('bad', 'silent'),
    'mute': ('silent',),
    'sure': (),
}
CLASSES = {
    'plain': Unit,
    'quiet': Quiet,
    'mild': Mild,
    'harsh': Harsh,
    'quietmild': QuietMild,
    'quietharsh': QuietHarsh,
    'mute': Mute,
    'sure': Sure,
}
KINDS = tuple(WORDS)
REPORTS = ('bad', 'good', 'silent')


def units_of(*kinds):
    return [CLASSES[kind]() for kind in kinds]


def sets_of(many, most=9):
    """All sets of at most most out of so many units, in the order of [13]."""
    return [bad for size in range(min(many, most) + 1) for bad in combinations(range(many), size)]


def expected_allowed(kinds, tests, number, bad):
    tester, tested = tests[number]
    if tester in bad:
        return WORDS[kinds[tester]]
    return ('bad',) if tested in bad else ('good',)


def expected_explains(plan, reports, bad):
    return all(report in expected_allowed(plan.kinds, plan.tests, number, bad)
               for number, report in enumerate(reports))


def expected_sets(plan, reports, most):
    return [bad for bad in sets_of(plan.many, most) if expected_explains(plan, reports, bad)]


def expected_common(plan, one, other):
    """For each test the first report that both sets allow, or None."""
    found = []
    for number in range(len(plan.tests)):
        both = [report for report in REPORTS
                if report in expected_allowed(plan.kinds, plan.tests, number, one)
                and report in expected_allowed(plan.kinds, plan.tests, number, other)]
        found.append(both[0] if both else None)
    return tuple(found)


def expected_confusion(plan, most):
    for one, other in combinations(sets_of(plan.many, most), 2):
        reports = expected_common(plan, one, other)
        if None not in reports:
            return one, other, reports
    return None


def with_tests(plan, tests):
    """A plan of the same kinds of units with these tests."""
    return Plan(*units_of(*plan.kinds), tests=tuple(tests))


def missing_tests(plan):
    return [test for test in permutations(range(plan.many), 2) if test not in plan.tests]


def some_plans(many, most_units, seed, kinds=KINDS):
    """So many different plans, the same ones each time."""
    random = Random(seed)
    plans = []
    for _ in range(many):
        units = random.randint(1, most_units)
        pairs = list(permutations(range(units), 2))
        random.shuffle(pairs)
        tests = pairs[:random.randint(0, len(pairs))]
        own = random.choice((kinds, random.choices(kinds, k=2)))
        plans.append(Plan(*units_of(*random.choices(own, k=units)), tests=tuple(tests)))
    return plans


def state_of(plan):
    """All that can be asked about a plan."""
    reports = [plan.allowed(number, bad)
               for number in range(len(plan.tests)) for bad in sets_of(plan.many)]
    return plan.many, plan.kinds, plan.tests, plan.text(), reports


class Case(unittest.TestCase):

    def same(self, value, expected):
        """Check that two values are equal and of the same kinds throughout."""
        self.assertEqual(value, expected)
        self.assertEqual(repr(value), repr(expected))

    def raises(self, error, action, *given, **named):
        """Check that a call raises an error of just this class."""
        with self.assertRaises(WatchError) as caught:
            action(*given, **named)
        self.assertIs(type(caught.exception), error)

    def is_plan(self, plan, kinds, tests):
        """Check all that can be asked about a plan but its text."""
        self.same(plan.many, len(kinds))
        self.same(plan.kinds, kinds)
        self.same(plan.tests, tests)
        for number in range(len(tests)):
            for bad in sets_of(len(kinds)):
                expected = expected_allowed(kinds, tests, number, bad)
                self.same(plan.allowed(number, bad), expected)
