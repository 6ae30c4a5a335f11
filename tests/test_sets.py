"""[13]: sets, and what reports a plan allows."""

from itertools import permutations

from testwatch.errors import NumberError, SetError
from testwatch.plans import Plan
from testwatch.units import Quiet, Unit
from tests.helpers import KINDS, WORDS, Case, expected_allowed, sets_of, state_of, units_of
from tests.wrong import NO_NUMBERS, NO_SETS


class AllowedTest(Case):

    def test_a_good_tester_reports_truly(self):
        plan = Plan.plain(3, (0, 1), (1, 2), (2, 0))
        self.same(plan.allowed(0, ()), ('good',))
        self.same(plan.allowed(0, (1,)), ('bad',))
        self.same(plan.allowed(0, (1, 2)), ('bad',))
        self.same(plan.allowed(0, (2,)), ('good',))
        self.same(plan.allowed(1, (2,)), ('bad',))
        self.same(plan.allowed(2, (0, 1)), ('bad',))

    def test_a_bad_tester_uses_its_words(self):
        for kind in KINDS:
            plan = Plan(*units_of('plain', kind), tests=((0, 1), (1, 0)))
            with self.subTest(kind=kind):
                self.same(plan.allowed(1, (1,)), WORDS[kind])
                self.same(plan.allowed(1, (0, 1)), WORDS[kind])
                self.same(plan.allowed(1, (0,)), ('bad',))
                self.same(plan.allowed(1, ()), ('good',))
                self.same(plan.allowed(0, (1,)), ('bad',))
                self.same(plan.allowed(0, ()), ('good',))
                self.same(plan.allowed(0, (0,)), ('bad', 'good'))

    def test_all_kinds_of_testers_and_tested_units(self):
        tests = ((1, 0), (0, 1))
        for one in KINDS:
            for other in KINDS:
                plan = Plan(*units_of(one, other), tests=tests)
                self.is_plan(plan, (one, other), tests)

    def test_all_sets_and_tests_of_nine_units(self):
        kinds = KINDS[::-1] + ('quiet',)
        tests = tuple(permutations(range(8, -1, -1), 2))
        plan = Plan(*units_of(*kinds), tests=tests)
        for number in range(len(tests)):
            for bad in sets_of(9):
                expected = expected_allowed(kinds, tests, number, bad)
                self.assertEqual(plan.allowed(number, bad), expected)

    def test_the_empty_set_and_the_full_set(self):
        plan = Plan.full(9)
        self.same(plan.allowed(0, ()), ('good',))
        self.same(plan.allowed(71, tuple(range(9))), ('bad', 'good'))

    def test_other_units_do_not_matter(self):
        plan = Plan(*units_of('mute', 'sure', 'plain', 'quiet'), tests=((2, 0),))
        for bad in ((), (1,), (3,), (1, 3)):
            self.same(plan.allowed(0, bad), ('good',))

    def test_one_unit_in_two_places(self):
        unit = Quiet()
        plan = Plan(unit, unit, tests=((0, 1), (1, 0)))
        self.same(plan.allowed(0, (0,)), ('bad', 'good', 'silent'))
        self.same(plan.allowed(1, (0,)), ('bad',))

    def test_again(self):
        plan = Plan(*units_of('quiet', 'mild', 'plain'), tests=((0, 1), (1, 2), (2, 0)))
        for number in range(3):
            for bad in sets_of(3):
                first = plan.allowed(number, bad)
                self.same(plan.allowed(number, bad), first)


class WrongArgumentsTest(Case):

    def plans(self):
        tests = ((0, 1), (1, 2), (2, 0))
        return [Plan.plain(3, *tests), Plan(*units_of('sure', 'mute', 'quiet'), tests=tests)]

    def test_what_is_not_the_number_of_a_test(self):
        for plan in self.plans():
            for number in NO_NUMBERS:
                for bad in ((), (0,), (0, 1, 2)):
                    with self.subTest(number=number, bad=bad):
                        self.raises(NumberError, plan.allowed, number, bad)

    def test_without_tests_nothing_is_a_number(self):
        for number in (0, 1, -1, None, True, False):
            self.raises(NumberError, Plan.plain(3).allowed, number, ())

    def test_the_last_number(self):
        plan = Plan.full(9)
        self.same(plan.allowed(71, (7,)), ('bad',))
        self.raises(NumberError, plan.allowed, 72, (7,))

    def test_what_is_not_a_set(self):
        for plan in self.plans():
            for bad in NO_SETS:
                for number in range(3):
                    with self.subTest(number=number, bad=bad):
                        self.raises(SetError, plan.allowed, number, bad)

    def test_the_range_of_sets_depends_on_the_units(self):
        for many in range(2, 10):
            plan = Plan.plain(many, (0, 1))
            self.same(plan.allowed(0, tuple(range(many))), ('bad', 'good'))
            self.raises(SetError, plan.allowed, 0, (many,))
            self.raises(SetError, plan.allowed, 0, tuple(range(many + 1)))
        self.raises(NumberError, Plan(Unit()).allowed, 0, (0,))

    def test_number_error_comes_first(self):
        for plan in self.plans():
            for number in NO_NUMBERS:
                for bad in NO_SETS:
                    self.raises(NumberError, plan.allowed, number, bad)
            self.raises(NumberError, Plan.plain(3).allowed, 0, None)

    def test_nothing_is_changed(self):
        for plan in self.plans():
            before = state_of(plan)
            for number in NO_NUMBERS:
                self.raises(NumberError, plan.allowed, number, (0,))
            for bad in NO_SETS:
                self.raises(SetError, plan.allowed, 1, bad)
            self.assertEqual(state_of(plan), before)
