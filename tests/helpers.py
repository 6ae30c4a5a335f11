"""What several test files use."""

import unittest
from itertools import combinations

from testwatch.errors import WatchError
from testwatch.units import Harsh, Mild, Mute, Quiet, QuietHarsh, QuietMild, Sure, Unit

# The table of [10], written out.
WORDS = {
    'plain': ('bad', 'good'),
    'quiet': ('bad', 'good', 'silent'),
    'mild': ('good',),
    'harsh': ('bad',),
    'quietmild': ('good', 'silent'),
    'quietharsh': ('bad', 'silent'),
    'mute': ('silent',),
    'sure': (),
}
CLASSES = {
    'plain': Unit,
    'quiet': Quiet,
    'mild': Mild,
    'harsh': Harsh,
    'quietmild': QuietMild,
    'quietharsh': QuietHarsh,
    'mute': Mute,
    'sure': Sure,
}
KINDS = tuple(WORDS)


def units_of(*kinds):
    return [CLASSES[kind]() for kind in kinds]


def sets_of(many):
    """All sets of so many units, in the order of [13]."""
    return [bad for size in range(many + 1) for bad in combinations(range(many), size)]


def expected_allowed(kinds, tests, number, bad):
    tester, tested = tests[number]
    if tester in bad:
        return WORDS[kinds[tester]]
    return ('bad',) if tested in bad else ('good',)


def state_of(plan):
    """All that can be asked about a plan."""
    reports = [plan.allowed(number, bad)
               for number in range(len(plan.tests)) for bad in sets_of(plan.many)]
    return plan.many, plan.kinds, plan.tests, plan.text(), reports


class Case(unittest.TestCase):

    def same(self, value, expected):
        """Check that two values are equal and of the same kinds throughout."""
        self.assertEqual(value, expected)
        self.assertEqual(repr(value), repr(expected))

    def raises(self, error, action, *given, **named):
        """Check that a call raises an error of just this class."""
        with self.assertRaises(WatchError) as caught:
            action(*given, **named)
        self.assertIs(type(caught.exception), error)

    def is_plan(self, plan, kinds, tests):
        """Check all that can be asked about a plan but its text."""
        self.same(plan.many, len(kinds))
        self.same(plan.kinds, kinds)
        self.same(plan.tests, tests)
        for number in range(len(tests)):
            for bad in sets_of(len(kinds)):
                expected = expected_allowed(kinds, tests, number, bad)
                self.same(plan.allowed(number, bad), expected)
