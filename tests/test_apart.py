"""[21]: what tells two sets apart, and what they have in common."""

from itertools import product

from testwatch.confusions import common, told_apart
from testwatch.errors import ApartError, WatchError
from testwatch.plans import Plan
from testwatch.reports import explains, explanations
from testwatch.units import Mute, Quiet, QuietMild, Sure, Unit
from tests.helpers import KINDS, REPORTS, Case, expected_common, sets_of, some_plans, units_of, with_tests
from tests.wrong import three


class ApartCase(Case):

    def check(self, plan, one, other):
        """Check what is told of two sets, in this order."""
        reports = expected_common(plan, one, other)
        if None in reports:
            number = reports.index(None)
            self.same(told_apart(plan, one, other), number)
            with self.assertRaises(WatchError) as caught:
                common(plan, one, other)
            self.assertIs(type(caught.exception), ApartError)
            self.same(caught.exception.number, number)
        else:
            self.same(told_apart(plan, one, other), None)
            self.same(common(plan, one, other), reports)


class ToldApartTest(ApartCase):

    def test_examples(self):
        plan = three()
        self.same(told_apart(plan, (), (0,)), 2)
        self.same(told_apart(plan, (), (1,)), 0)
        self.same(told_apart(plan, (1,), (2,)), 0)
        self.same(told_apart(plan, (0,), (0, 1)), None)
        self.same(told_apart(plan, (0, 1), (0,)), None)
        self.same(told_apart(plan, (2,), (0, 1)), None)
        self.same(told_apart(plan, (), ()), None)

    def test_the_first_of_several(self):
        plan = Plan.plain(3, (2, 1), (1, 0), (2, 0), (0, 1))
        self.same(told_apart(plan, (), (0,)), 1)
        self.same(told_apart(plan, (), (0, 1)), 0)
        self.same(told_apart(plan, (1,), (0, 1)), 2)

    def test_common(self):
        plan = three()
        self.same(common(plan, (0,), (0, 1)), ('bad', 'good', 'bad'))
        self.same(common(plan, (0, 1), (0,)), ('bad', 'good', 'bad'))
        self.same(common(plan, (), ()), ('good', 'good', 'good'))
        self.same(common(plan, (0, 1, 2), (0, 1, 2)), ('bad', 'bad', 'bad'))
        self.same(common(plan, (2,), (0, 1)), ('good', 'bad', 'bad'))

    def test_the_order_bad_good_silent(self):
        def of(kind, one, other):
            return common(Plan(*units_of(kind, 'plain'), tests=((0, 1),)), one, other)
        for kind, report in (('plain', 'bad'), ('quiet', 'bad'), ('mild', 'good'), ('harsh', 'bad'),
                             ('quietmild', 'good'), ('quietharsh', 'bad'), ('mute', 'silent')):
            self.same(of(kind, (0,), (0, 1)), (report,))
        self.same(of('quiet', (0,), ()), ('good',))
        self.same(of('quietmild', (), (0,)), ('good',))
        self.same(of('plain', (1,), (0,)), ('bad',))

    def test_a_set_and_itself(self):
        plan = Plan(Sure(), Unit(), Sure(), tests=((1, 0), (0, 1)))
        for bad in sets_of(3):
            self.same(told_apart(plan, bad, bad), 1 if 0 in bad else None)
            self.check(plan, bad, bad)

    def test_silent_alone(self):
        plan = Plan(Mute(), Quiet(), QuietMild(), tests=((1, 0), (0, 2), (2, 1)))
        self.same(told_apart(plan, (0,), ()), 0)
        self.same(told_apart(plan, (0, 1), (1,)), 1)
        for one in sets_of(3):
            for other in sets_of(3):
                self.check(plan, one, other)

    def test_all_pairs_of_kinds(self):
        for kinds in product(KINDS, repeat=2):
            for tests in (((0, 1),), ((1, 0),), ((1, 0), (0, 1))):
                plan = Plan(*units_of(*kinds), tests=tests)
                for one in sets_of(2):
                    for other in sets_of(2):
                        self.check(plan, one, other)

    def test_any_two_sets(self):
        for plan in some_plans(60, 4, 10):
            for one in sets_of(plan.many):
                for other in sets_of(plan.many):
                    self.check(plan, one, other)

    def test_without_tests(self):
        for one in sets_of(4):
            for other in sets_of(4):
                self.same(told_apart(Plan.plain(4), one, other), None)
                self.same(common(Plan.plain(4), one, other), ())

    def test_nine_units_with_all_tests(self):
        full = Plan.full(9)
        mixed = with_tests(Plan(*units_of('quiet', *KINDS[::-1])), full.tests[::-1])
        sets = sets_of(9)[::23]
        for plan in (full, mixed):
            for one in sets:
                for other in sets:
                    self.check(plan, one, other)

    def test_against_what_a_plan_allows(self):
        plans = [Plan(*units_of(*[kind] * 4), tests=Plan.full(4).tests) for kind in KINDS]
        plans += [Plan(*units_of(*kinds), tests=Plan.full(4).tests[::-1])
                  for kinds in (KINDS[:4], KINDS[4:], KINDS[::2], KINDS[1::2])]
        plans += [plan for plan in some_plans(80, 4, 13) if plan.many == 4]
        for plan in plans:
            for one, other in product(sets_of(4), repeat=2):
                self.check_by_asking(plan, one, other)

    def check_by_asking(self, plan, one, other):
        """Check what is told of two sets by asking the plan test by test."""
        reports = []
        for number in range(len(plan.tests)):
            allowed = plan.allowed(number, one), plan.allowed(number, other)
            both = [report for report in REPORTS if report in allowed[0] and report in allowed[1]]
            if not both:
                self.same(told_apart(plan, one, other), number)
                with self.assertRaises(ApartError) as caught:
                    common(plan, one, other)
                self.same(caught.exception.number, number)
                return
            reports.append(both[0])
        self.same(told_apart(plan, one, other), None)
        self.same(common(plan, one, other), tuple(reports))

    def test_in_either_order(self):
        for plan in some_plans(20, 4, 11):
            for one in sets_of(plan.many):
                for other in sets_of(plan.many):
                    self.same(told_apart(plan, one, other), told_apart(plan, other, one))

    def test_apart_error_with_a_later_number(self):
        plan = Plan.full(9)
        with self.assertRaises(ApartError) as caught:
            common(plan, tuple(range(8)), tuple(range(7)))
        self.same(caught.exception.number, 71)

    def test_common_reports_if_and_only_if_no_test_tells_them_apart(self):
        for plan in some_plans(40, 3, 12):
            sharing = set()
            for row in product(REPORTS, repeat=len(plan.tests)):
                sharing.update(product(explanations(plan, row, plan.many), repeat=2))
            for one in sets_of(plan.many):
                for other in sets_of(plan.many):
                    both = (one, other) in sharing
                    self.assertEqual(both, told_apart(plan, one, other) is None)
                    if both:
                        reports = common(plan, one, other)
                        self.same((explains(plan, reports, one), explains(plan, reports, other)), (True, True))

    def test_again(self):
        plan = three()
        self.same(told_apart(plan, (), (1,)), told_apart(plan, (), (1,)))
        self.same(common(plan, (0,), (0, 1)), common(plan, (0,), (0, 1)))
        for _ in range(2):
            self.raises(ApartError, common, plan, (), (1,))
