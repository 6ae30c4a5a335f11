"""What the program works out for all sets of a plan at once, and for all tests at once."""

from itertools import combinations

from testwatch.choices import CHOICE_OF, FIRST_OF, choice_of, choices_under
from testwatch.families import Families, count_of
from testwatch.partners import Partners
from testwatch.plans import Plan
from testwatch.sets import sets_up_to
from tests.helpers import (
    KINDS, REPORTS, WORDS, Case, expected_allowed, expected_common, expected_explains, sets_of, some_plans, units_of,
)


class ChoicesTest(Case):

    def test_choices(self):
        for size in range(4):
            for reports in combinations(REPORTS, size):
                choice = choice_of(reports)
                self.same(tuple(report for report in REPORTS if choice & CHOICE_OF[report]), reports)
                self.same(FIRST_OF[choice], reports[0] if reports else None)
        self.assertEqual(len(FIRST_OF), 8)

    def test_of_units(self):
        for kind in KINDS:
            self.same(Plan(*units_of('plain', kind)).choices, (3, choice_of(WORDS[kind])))

    def test_under_sets(self):
        for plan in some_plans(40, 5, 40):
            for bad in sets_of(plan.many):
                expected = [choice_of(expected_allowed(plan.kinds, plan.tests, number, bad))
                            for number in range(len(plan.tests))]
                self.same(list(choices_under(plan, bad)), expected)


class FamiliesTest(Case):

    def test_the_sets_and_their_units(self):
        for many in range(1, 10):
            for most in range(many + 1):
                families = Families(Plan.plain(many), most)
                sets = sets_of(many, most)
                self.same(sets_up_to(many, most), sets)
                self.same(families.sets, sets)
                self.same(families.listed(families.everything), sets)
                for unit in range(many):
                    self.same(families.listed(families.with_unit[unit]), [bad for bad in sets if unit in bad])
                    self.same(families.listed(families.without_unit[unit]), [bad for bad in sets if unit not in bad])
                    self.same(families.with_unit[unit] | families.without_unit[unit], families.everything)

    def test_counts_and_first_sets(self):
        families = Families(Plan.plain(4), 3)
        self.same(families.listed(0), [])
        self.same(count_of(0), 0)
        for family in range(1, 1 << 15, 7):
            sets = families.listed(family)
            self.same(count_of(family), len(sets))
            self.same(families.first(family), sets[0])

    def test_what_tests_allow(self):
        for plan in some_plans(30, 5, 41):
            for most in range(plan.many + 1):
                families = Families(plan, most)
                for number, test in enumerate(plan.tests):
                    for report in REPORTS:
                        expected = [bad for bad in sets_of(plan.many, most)
                                    if report in expected_allowed(plan.kinds, plan.tests, number, bad)]
                        self.same(families.listed(families.allowing(test, CHOICE_OF[report])), expected)

    def test_partly_known_reports(self):
        for plan in some_plans(20, 4, 42):
            families = Families(plan, plan.many)
            for bad in sets_of(plan.many):
                reports = tuple(report if number % 2 else None
                                for number, report in enumerate(expected_common(plan, bad, bad)))
                known = [number for number, report in enumerate(reports) if report is not None]
                part = Plan(*units_of(*plan.kinds), tests=tuple(plan.tests[number] for number in known))
                told = tuple(reports[number] for number in known)
                expected = [one for one in sets_of(plan.many) if expected_explains(part, told, one)]
                self.same(families.listed(families.explaining(reports)), expected)


class PartnersTest(Case):

    def test_in_all_families(self):
        for plan in some_plans(60, 4, 43):
            families = Families(plan, plan.many)
            partners = Partners(plan, families)
            for one in families.sets:
                expected = [other for other in families.sets if None not in expected_common(plan, one, other)]
                self.same(families.listed(partners.among(families.everything, one)), expected)
                self.same(partners.among(0, one), 0)
                for family in (families.with_unit[0], families.without_unit[-1]):
                    within = families.listed(family)
                    self.same(families.listed(partners.among(family, one)), [bad for bad in expected if bad in within])
