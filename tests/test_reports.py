"""[20]: sets that explain reports, and what is sure."""

from itertools import product
from random import Random

from testwatch.errors import NoneError
from testwatch.plans import Plan
from testwatch.reports import are_reports, explains, explanations, sure_bad, sure_good
from testwatch.units import Mild, Mute, Quiet, Sure, Unit
from tests.helpers import (
    KINDS, REPORTS, Case, expected_common, expected_sets, missing_tests, sets_of, some_plans, units_of, with_tests,
)
from tests.wrong import NO_REPORTS, three


def sure_of(sets, many):
    """The units in all of the sets, and those in none."""
    units = range(many)
    in_all = tuple(unit for unit in units if all(unit in bad for bad in sets))
    in_none = tuple(unit for unit in units if not any(unit in bad for bad in sets))
    return in_all, in_none


class AreReportsTest(Case):

    def test_reports(self):
        for reports in product(REPORTS, repeat=3):
            self.same(are_reports(three(), reports), True)
        self.same(are_reports(Plan.plain(3), ()), True)
        self.same(are_reports(Plan(Unit()), ()), True)
        self.same(are_reports(Plan.full(9), ('silent',) * 72), True)

    def test_reports_need_not_be_words_of_the_units(self):
        plan = Plan(Sure(), Mute(), tests=((0, 1), (1, 0)))
        for reports in product(REPORTS, repeat=2):
            self.same(are_reports(plan, reports), True)

    def test_values_near_them(self):
        for thing in NO_REPORTS:
            with self.subTest(thing=thing):
                self.same(are_reports(three(), thing), False)

    def test_the_number_of_tests_matters(self):
        for many in range(6):
            plan = Plan.plain(3, *Plan.full(3).tests[:many])
            for size in range(8):
                self.same(are_reports(plan, ('good',) * size), size == many)
        for size in (70, 71, 73, 144):
            self.same(are_reports(Plan.full(9), ('bad',) * size), False)

    def test_values_are_not_changed(self):
        plan = three()
        deep = ['good', ['bad', ['bad', {'silent': ['good', {0: [[]]}]}]]]
        wide = {f'key {number}': [None, True, number] for number in range(400)}
        for thing in (['good', 'bad', 'bad'], deep, wide, (deep, 'bad', 'bad'), ('good', wide, 'bad'), [wide] * 3,
                      [], {}, ([],), ({}, [], ())):
            before = repr(thing)
            self.same(are_reports(plan, thing), False)
            self.same(are_reports(plan, thing), False)
            self.assertEqual(repr(thing), before)


class ExplainsTest(Case):

    def test_examples(self):
        plan = three()
        reports = ('good', 'bad', 'bad')
        self.same([bad for bad in sets_of(3) if explains(plan, reports, bad)],
                  [(2,), (0, 1), (0, 2), (0, 1, 2)])
        self.same(explains(plan, reports, ()), False)
        self.same(explains(plan, reports, (2,)), True)
        self.same(explains(plan, ('good',) * 3, ()), True)

    def test_against_what_is_allowed(self):
        for plan in some_plans(40, 3, 1):
            for reports in product(REPORTS, repeat=len(plan.tests)):
                sets = expected_sets(plan, reports, plan.many)
                for bad in sets_of(plan.many):
                    self.same(explains(plan, reports, bad), bad in sets)

    def test_each_test_counts(self):
        plan = Plan.full(4)
        good = ('good',) * 12
        self.same(explains(plan, good, ()), True)
        for number in range(12):
            for report in ('bad', 'silent'):
                changed = good[:number] + (report,) + good[number + 1:]
                self.same(explains(plan, changed, ()), False)

    def test_without_tests(self):
        for many in range(1, 10):
            for bad in sets_of(many):
                self.same(explains(Plan.plain(many), (), bad), True)

    def test_a_bad_sure_unit_that_tests_another_explains_nothing(self):
        plan = Plan(*units_of('sure', 'plain', 'sure'), tests=((0, 1), (1, 2)))
        for reports in product(REPORTS, repeat=2):
            for bad in sets_of(3):
                if 0 in bad:
                    self.same(explains(plan, reports, bad), False)
        self.same(explains(plan, ('good', 'bad'), (2,)), True)
        self.same(explains(plan, ('bad', 'bad'), (1, 2)), True)


class AllSetsTest(Case):
    """explains, asked for each set, and explanations, which goes through all of them."""

    def check(self, plan, reports):
        true = [bad for bad in sets_of(plan.many) if explains(plan, reports, bad)]
        self.same(list(explanations(plan, reports, plan.many)), true)
        for most in range(plan.many + 1):
            self.same(list(explanations(plan, reports, most)), [bad for bad in true if len(bad) <= most])
        if true:
            sure = sure_of(true, plan.many)
            self.same((sure_bad(plan, reports, plan.many), sure_good(plan, reports, plan.many)), sure)
        return true

    def test_all_sets_of_nine_plain_units(self):
        plan = Plan.full(9)
        for bad in ((), (4,), (0, 8), (1, 2, 3, 7), tuple(range(5)), tuple(range(9))):
            for at in (0, -1):
                # What each test reports: the first or the last report that the set allows.
                reports = tuple(plan.allowed(number, bad)[at] for number in range(72))
                self.assertIn(bad, self.check(plan, reports))

    def test_all_sets_of_nine_units_of_all_kinds(self):
        random = Random(7)
        for plan in some_plans(20, 9, 8) + [with_tests(Plan(*units_of(*KINDS, 'mute')), Plan.full(9).tests)]:
            for bad in random.sample(sets_of(plan.many), 2):
                allowed = [plan.allowed(number, bad) for number in range(len(plan.tests))]
                if () not in allowed:
                    self.assertIn(bad, self.check(plan, tuple(random.choice(words) for words in allowed)))

    def test_the_place_of_the_report_that_is_not_allowed(self):
        plan = Plan.full(9)
        for number in range(72):
            reports = ('good',) * number + ('bad',) + ('good',) * (71 - number)
            self.same(explains(plan, reports, ()), False)
            self.same(explains(plan, reports, (plan.tests[number][1],)), False)
            self.same(explains(plan, reports, tuple(range(9))), True)
            self.same(list(explanations(plan, reports, 9)), [tuple(range(9))])


class ExplanationsTest(Case):

    def test_the_session(self):
        reports = ('good', 'bad', 'bad')
        self.same(list(explanations(three(), reports, 0)), [])
        self.same(list(explanations(three(), reports, 1)), [(2,)])
        self.same(list(explanations(three(), reports, 2)), [(2,), (0, 1), (0, 2)])
        self.same(list(explanations(three(), reports, 3)), [(2,), (0, 1), (0, 2), (0, 1, 2)])

    def test_order(self):
        self.same(list(explanations(Plan.plain(3), (), 3)),
                  [(), (0,), (1,), (2,), (0, 1), (0, 2), (1, 2), (0, 1, 2)])
        for many in range(1, 10):
            for most in range(many + 1):
                sets = list(explanations(Plan.plain(many), (), most))
                self.same(sets, sets_of(many, most))
                self.same(sets, sorted(sets, key=lambda bad: (len(bad), bad)))

    def test_against_what_is_allowed(self):
        for plan in some_plans(40, 3, 2):
            for reports in product(REPORTS, repeat=len(plan.tests)):
                for most in range(plan.many + 1):
                    self.same(list(explanations(plan, reports, most)), expected_sets(plan, reports, most))

    def test_four_units_of_all_kinds(self):
        for plan in some_plans(60, 4, 3):
            for bad in sets_of(plan.many):
                reports = expected_common(plan, bad, bad)
                if None not in reports:
                    self.same(list(explanations(plan, reports, plan.many)), expected_sets(plan, reports, plan.many))

    def test_a_bad_sure_unit_that_tests_another_explains_nothing(self):
        plan = Plan(Sure(), Unit(), Sure(), tests=((0, 1),))
        self.same(list(explanations(plan, ('good',), 3)), [(), (2,)])
        self.same(list(explanations(plan, ('bad',), 3)), [(1,), (1, 2)])
        self.same(list(explanations(plan, ('silent',), 3)), [])

    def test_nine_units_with_all_tests(self):
        plan = Plan.full(9)
        self.same(list(explanations(plan, ('good',) * 72, 4)), [()])
        self.same(list(explanations(plan, ('good',) * 72, 9)), [(), tuple(range(9))])
        self.same(list(explanations(plan, ('silent',) * 72, 9)), [])
        mixed = with_tests(Plan(*units_of(*KINDS, 'quiet')), plan.tests[::-1])
        for plan in (plan, mixed):
            for bad in ((), (3,), (0, 5), (2, 4, 8), (0, 1, 2, 3, 4)):
                reports = expected_common(plan, bad, bad)
                for most in (0, 4, 9):
                    self.same(list(explanations(plan, reports, most)), expected_sets(plan, reports, most))

    def test_one_after_another(self):
        plan, reports = three(), ('good', 'bad', 'bad')
        first, second = explanations(plan, reports, 3), explanations(plan, ('good',) * 3, 3)
        self.same(next(first), (2,))
        self.same(next(second), ())
        self.same(next(first), (0, 1))
        self.same(list(first), [(0, 2), (0, 1, 2)])
        self.same(list(second), [(0, 1, 2)])

    def test_again(self):
        for plan in some_plans(10, 4, 4):
            reports = ('good',) * len(plan.tests)
            self.same(list(explanations(plan, reports, plan.many)), list(explanations(plan, reports, plan.many)))


class SureTest(Case):

    def test_examples(self):
        plan, reports = three(), ('good', 'bad', 'bad')
        self.same((sure_bad(plan, reports, 1), sure_good(plan, reports, 1)), ((2,), (0, 1)))
        self.same((sure_bad(plan, reports, 2), sure_good(plan, reports, 2)), ((), ()))
        self.same((sure_bad(plan, ('good',) * 3, 0), sure_good(plan, ('good',) * 3, 0)), ((), (0, 1, 2)))

    def test_several_sets(self):
        plan = Plan.plain(4, (0, 1))
        self.same(list(explanations(plan, ('bad',), 1)), [(0,), (1,)])
        self.same((sure_bad(plan, ('bad',), 1), sure_good(plan, ('bad',), 1)), ((), (2, 3)))
        plan = Plan(Mild(), Quiet(), Unit(), tests=((0, 1),))
        self.same((sure_bad(plan, ('bad',), 2), sure_good(plan, ('bad',), 2)), ((1,), (0,)))
        self.same((sure_bad(plan, ('bad',), 1), sure_good(plan, ('bad',), 1)), ((1,), (0, 2)))

    def test_against_all_explanations(self):
        for plan in some_plans(40, 3, 5):
            for reports in product(REPORTS, repeat=len(plan.tests)):
                for most in range(plan.many + 1):
                    sets = expected_sets(plan, reports, most)
                    if sets:
                        sure = sure_of(sets, plan.many)
                        self.same((sure_bad(plan, reports, most), sure_good(plan, reports, most)), sure)
                    else:
                        self.raises(NoneError, sure_bad, plan, reports, most)
                        self.raises(NoneError, sure_good, plan, reports, most)

    def test_none(self):
        for action in (sure_bad, sure_good):
            self.raises(NoneError, action, three(), ('good', 'bad', 'bad'), 0)
            self.raises(NoneError, action, three(), ('silent', 'bad', 'bad'), 3)
            self.raises(NoneError, action, Plan(Sure(), Unit(), tests=((0, 1),)), ('silent',), 2)
            self.raises(NoneError, action, Plan.full(9), ('silent',) * 72, 9)

    def test_without_tests(self):
        for many in range(1, 10):
            plan = Plan.plain(many)
            self.same(sure_bad(plan, (), many), ())
            self.same(sure_good(plan, (), many), ())
            self.same(sure_good(plan, (), 0), tuple(range(many)))

    def test_nine_units_with_all_tests(self):
        plan = Plan.full(9)
        for bad in ((), (8,), (0, 7), (1, 4, 6), (2, 3, 5, 8)):
            reports = expected_common(plan, bad, bad)
            good = tuple(unit for unit in range(9) if unit not in bad)
            self.same((sure_bad(plan, reports, 4), sure_good(plan, reports, 4)), (bad, good))

    def test_more_tests_leave_no_more_sets(self):
        for plan in some_plans(20, 3, 6):
            for test in missing_tests(plan):
                longer = with_tests(plan, plan.tests + (test,))
                for bad in sets_of(plan.many):
                    reports = expected_common(longer, bad, bad)
                    if None not in reports:
                        before = list(explanations(plan, reports[:-1], plan.many))
                        after = list(explanations(longer, reports, plan.many))
                        self.assertEqual([one for one in before if one in after], after)
