"""[32], [33] and [34]: which tests a plan can do without, and which it should have."""

from itertools import combinations

from testwatch.confusions import finds, strength
from testwatch.design import lean, more, needless, next_test, worst
from testwatch.errors import LimitError, WatchError, WeakError
from testwatch.plans import Plan
from testwatch.reports import explanations
from testwatch.units import Mute, Quiet, QuietHarsh, Sure, Unit
from tests.helpers import (
    KINDS, REPORTS, Case, expected_allowed, expected_common, expected_sets, missing_tests, sets_of, some_plans,
    units_of, with_tests,
)
from tests.wrong import three


def without(plan, number):
    return with_tests(plan, plan.tests[:number] + plan.tests[number + 1:])


def expected_needless(plan, most):
    return tuple(number for number in range(len(plan.tests)) if finds(without(plan, number), most))


def expected_lean(plan, most):
    for number in reversed(range(len(plan.tests))):
        if finds(without(plan, number), most):
            plan = without(plan, number)
    return plan.tests


def expected_more(plan, most):
    missing = missing_tests(plan)
    for size in range(len(missing) + 1):
        for added in combinations(missing, size):
            if finds(with_tests(plan, plan.tests + added), most):
                return added
    return None


def expected_worst(plan, reports, most, test):
    longer = with_tests(plan, plan.tests + (test,))
    sets = expected_sets(plan, reports, most)
    return max(sum(report in expected_allowed(longer.kinds, longer.tests, len(plan.tests), bad) for bad in sets)
               for report in REPORTS)


def expected_next(plan, reports, most):
    best = None
    for test in sorted(missing_tests(plan)):
        number = expected_worst(plan, reports, most, test)
        if best is None or number < best[0]:
            best = (number, test)
    return best


def some_reports(plan):
    """Reports that are explained, if any are, and reports that perhaps are not."""
    for bad in sets_of(plan.many)[::3]:
        reports = expected_common(plan, bad, bad)
        if None not in reports:
            yield reports
    yield ('silent',) * len(plan.tests)


class NeedlessTest(Case):

    def test_a_ring(self):
        self.same(needless(three(), 1), ())
        self.same(needless(three(), 0), (0, 1, 2))
        self.same(lean(three(), 1), ((0, 1), (1, 2), (2, 0)))
        self.same(lean(three(), 0), ())

    def test_all_tests_of_three_units(self):
        plan = Plan.full(3)
        self.same(needless(plan, 1), (0, 1, 2, 3, 4, 5))
        self.same(lean(plan, 1), ((0, 1), (0, 2), (1, 0), (2, 0)))
        self.same(lean(with_tests(plan, plan.tests[::-1]), 1), ((2, 1), (2, 0), (1, 2), (0, 2)))

    def test_the_order_of_the_tests_matters(self):
        plan = Plan.plain(3, (2, 0), (0, 2), (0, 1), (2, 1), (1, 2))
        self.same(needless(plan, 1), expected_needless(plan, 1))
        self.assertNotIn(0, needless(plan, 1))
        self.same(lean(plan, 1), expected_lean(plan, 1))

    def test_against_plans_without_a_test(self):
        for plan in some_plans(100, 4, 40) + some_plans(12, 6, 41):
            for most in range(strength(plan) + 1):
                self.same(needless(plan, most), expected_needless(plan, most))
                self.same(lean(plan, most), expected_lean(plan, most))

    def test_full_plans_of_all_kinds(self):
        for kind in KINDS:
            for many in range(1, 6):
                plan = with_tests(Plan(*units_of(*[kind] * many)), Plan.full(many).tests)
                for most in range(strength(plan) + 1):
                    self.same(needless(plan, most), expected_needless(plan, most))
                    self.same(lean(plan, most), expected_lean(plan, most))

    def test_no_kept_test_can_be_left_out(self):
        plan = Plan.full(9)
        for given in (plan, with_tests(Plan(*units_of('plain', *KINDS)), plan.tests[::-1])):
            for most in (1, 2, 4):
                kept = lean(given, most)
                self.same(kept, tuple(test for test in given.tests if test in kept))
                self.same(finds(with_tests(given, kept), most), True)
                self.same(needless(with_tests(given, kept), most), ())
                self.same(lean(with_tests(given, kept), most), kept)

    def test_needless_tests_of_nine_units(self):
        plan = Plan.full(9)
        self.same(needless(plan, 4), tuple(range(72)))
        self.same(needless(plan, 0), tuple(range(72)))
        ring = [((unit - by) % 9, unit) for unit in range(9) for by in (1, 2)]
        self.same(needless(Plan.plain(9, *ring), 2), ())
        self.same(needless(Plan.plain(9, (4, 0), *ring), 2), (0, 1, 2))
        self.same(lean(Plan.plain(9, *ring), 2), tuple(ring))

    def test_without_tests(self):
        for many in range(1, 10):
            self.same(needless(Plan.plain(many), 0), ())
            self.same(lean(Plan.plain(many), 0), ())

    def test_weak(self):
        for action in (needless, lean):
            self.raises(WeakError, action, three(), 2)
            self.raises(WeakError, action, three(), 3)
            self.raises(WeakError, action, Plan(Unit()), 1)
            self.raises(WeakError, action, Plan.full(9), 5)
            for plan in some_plans(40, 4, 42):
                for most in range(strength(plan) + 1, plan.many + 1):
                    self.raises(WeakError, action, plan, most)

    def test_again(self):
        for plan in some_plans(10, 5, 43):
            most = strength(plan)
            state = plan.text()
            self.same(needless(plan, most), needless(plan, most))
            self.same(lean(plan, most), lean(plan, most))
            self.same(plan.text(), state)


class MoreTest(Case):

    def test_plain_units(self):
        self.same(more(Plan.plain(3), 1), ((0, 1), (1, 2), (2, 0)))
        self.same(more(Plan.plain(3, (1, 0)), 1), ((0, 2), (2, 1)))
        self.same(more(Plan.plain(3, (0, 1), (2, 0)), 1), ((1, 2),))
        self.same(more(three(), 1), ())
        self.same(more(three(), 0), ())
        self.same(more(three(), 2), None)
        self.same(more(Plan.full(4), 1), ())
        self.same(more(Plan.full(4), 2), None)
        self.same(more(Plan.plain(2), 1), None)

    def test_one_unit(self):
        for kind in KINDS:
            self.same(more(Plan(*units_of(kind)), 0), ())
            self.same(more(Plan(*units_of(kind)), 1), None)

    def test_other_units(self):
        self.same(more(Plan(Sure(), Sure()), 2), ((0, 1),))
        self.same(more(Plan(Mute(), Mute(), Mute()), 3), ((0, 1), (1, 0), (2, 0)))
        self.same(more(Plan(Mute(), Mute(), Mute()), 0), ())

    def test_two_units_against_all_choices(self):
        for one in KINDS:
            for other in KINDS:
                for tests in ((), ((0, 1),), ((1, 0),), ((1, 0), (0, 1))):
                    plan = Plan(*units_of(one, other), tests=tests)
                    for most in range(3):
                        self.same(more(plan, most), expected_more(plan, most))

    def test_three_and_four_units_against_all_choices(self):
        for plan in some_plans(60, 3, 50) + some_plans(16, 4, 51):
            for most in range(plan.many + 1):
                self.same(more(plan, most), expected_more(plan, most))

    def test_four_units_without_tests(self):
        for kinds in (['plain'] * 4, ['mute'] * 4, ['sure', 'mild', 'harsh', 'quiet'], ['quietmild', 'mute'] * 2):
            plan = Plan(*units_of(*kinds))
            for most in (1, 2):
                added = more(plan, most)
                if added is None:
                    self.assertFalse(finds(with_tests(plan, Plan.full(4).tests), most))
                    continue
                self.same(added, tuple(sorted(set(added))))
                self.assertTrue(finds(with_tests(plan, added), most))
                for fewer in combinations(Plan.full(4).tests, len(added)):
                    if fewer == added:
                        break
                    self.assertFalse(finds(with_tests(plan, fewer), most))
                self.same(lean(with_tests(plan, added), most), added)
        self.same(more(Plan.plain(4), 1), ((0, 1), (0, 2), (1, 3), (3, 0)))

    def test_more_than_four_units(self):
        for many in range(5, 10):
            for plan in (Plan.plain(many), Plan.full(many), Plan(*[Sure()] * many)):
                for most in range(many + 1):
                    with self.assertRaises(WatchError) as caught:
                        more(plan, most)
                    self.assertIs(type(caught.exception), LimitError)
                    self.same((caught.exception.amount, caught.exception.limit), (many, 4))

    def test_again(self):
        plan = Plan(Mute(), Quiet(), Unit(), tests=((2, 1),))
        for most in range(4):
            self.same(more(plan, most), more(plan, most))
        self.same(plan.tests, ((2, 1),))


class WorstTest(Case):

    def test_examples(self):
        plan = Plan.plain(3, (0, 1))
        self.same(list(explanations(plan, ('bad',), 1)), [(0,), (1,)])
        self.same(worst(plan, ('bad',), 1, (2, 0)), 1)
        self.same(worst(plan, ('bad',), 1, (0, 2)), 2)
        self.same(worst(plan, ('bad',), 1, (1, 2)), 2)
        self.same(next_test(plan, ('bad',), 1), (1, (2, 0)))
        self.same(next_test(plan, ('bad',), 0), (0, (0, 2)))
        self.same(next_test(Plan.plain(3), (), 0), (1, (0, 1)))

    def test_each_report_is_counted(self):
        plan = Plan(Mute(), QuietHarsh(), Unit())
        self.same(worst(plan, (), 3, (0, 1)), 4)
        self.same(worst(plan, (), 3, (1, 0)), 6)
        self.same(worst(plan, (), 3, (2, 0)), 6)
        self.same(worst(plan, (), 1, (0, 1)), 2)
        self.same(worst(Plan(Mute(), Mute(), tests=((1, 0),)), ('silent',), 2, (0, 1)), 1)
        self.same(worst(Plan(Quiet(), Unit(), Mute(), tests=((0, 1),)), ('silent',), 2, (2, 1)), 1)
        self.same(worst(Plan(Mute(), Unit(), tests=((0, 1),)), ('silent',), 2, (1, 0)), 2)

    def test_without_explanations(self):
        plan = Plan.plain(3, (0, 1))
        self.same(worst(plan, ('silent',), 3, (2, 0)), 0)
        self.same(next_test(plan, ('silent',), 3), (0, (0, 2)))

    def test_a_bad_sure_unit_is_not_counted(self):
        plan = Plan(Sure(), Unit())
        self.same(worst(plan, (), 2, (0, 1)), 1)
        self.same(worst(plan, (), 2, (1, 0)), 3)
        self.same(next_test(plan, (), 2), (1, (0, 1)))

    def test_against_all_sets(self):
        for plan in some_plans(60, 4, 60):
            for reports in some_reports(plan):
                for most in range(plan.many + 1):
                    for test in missing_tests(plan):
                        self.same(worst(plan, reports, most, test), expected_worst(plan, reports, most, test))
                    self.same(next_test(plan, reports, most), expected_next(plan, reports, most))

    def test_all_tests(self):
        for many in range(1, 10):
            plan = Plan.full(many)
            for tests in (plan.tests, plan.tests[::-1]):
                given = with_tests(plan, tests)
                for report in REPORTS:
                    self.same(next_test(given, (report,) * len(tests), many), None)

    def test_all_tests_but_one(self):
        for number in range(12):
            plan = without(Plan.full(4), number)
            reports = ('good',) * 11
            test = Plan.full(4).tests[number]
            self.same(next_test(plan, reports, 4), (2, test))
            self.same(worst(plan, reports, 4, test), 2)
            self.same(worst(plan, reports, 3, test), 1)

    def test_nine_units(self):
        self.same(next_test(Plan.plain(9), (), 9), (384, (0, 1)))
        self.same(worst(Plan.plain(9), (), 9, (8, 7)), 384)
        plan = Plan(*units_of(*KINDS, 'quiet'), tests=((1, 0), (8, 3), (2, 7), (6, 5)))
        for reports in (('good', 'bad', 'good', 'bad'), ('silent', 'silent', 'good', 'silent')):
            for most in (2, 9):
                self.same(next_test(plan, reports, most), expected_next(plan, reports, most))

    def test_again(self):
        for plan in some_plans(10, 4, 61):
            reports = ('good',) * len(plan.tests)
            state = plan.text()
            self.same(next_test(plan, reports, plan.many), next_test(plan, reports, plan.many))
            for test in missing_tests(plan):
                self.same(worst(plan, reports, 1, test), worst(plan, reports, 1, test))
            self.same(plan.text(), state)
