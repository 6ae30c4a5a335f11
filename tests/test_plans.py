"""[11]: how plans are made, and what they tell of themselves."""

from itertools import permutations

from testwatch.errors import PlanError, TestsError, UnitsError
from testwatch.plans import Plan
from testwatch.units import Harsh, Mild, Mute, Quiet, QuietHarsh, QuietMild, Sure, Unit
from tests.helpers import CLASSES, KINDS, Case, state_of, units_of

NO_UNITS = (None, True, False, 0, 1, '', 'plain', 'Unit', (), (Unit(),), [], [Unit()], {},
            {0: Unit()}, Plan(Unit()))
# Each of them is wrong for three units.
NO_TESTS = (
    [], [(0, 1)], [[0, 1]], None, True, False, 0, 1, '', '01', '0 1', {}, {(0, 1): True},
    (0, 1), (0,), (None,), (True,), ('01',), ('',), ((),), ((0,),), ((0, 1, 2),), ((0, 1, 1),),
    ([0, 1],), ([],), ((0, 1), [1, 2]), ([0, 1], (1, 2)), ({0: 1, 1: 0},), (((0, 1),),),
    ((True, 0),), ((0, True),), ((False, 1),), ((1, False),), ((2, True),), ((True, False),),
    ((None, 0),), ((0, None),), (('0', '1'),), ((0, '1'),), (((0,), 1),), ((0, [1]),),
    ((0, 0),), ((1, 1),), ((2, 2),), ((0, 1), (2, 2)),
    ((0, 3),), ((3, 0),), ((-1, 0),), ((0, -1),), ((0, -2),), ((0, 9),),
    ((0, 9999999999999),), ((-9999999999999, 0),), ((0, 1), (1, 2), (2, 3)),
    ((0, 1), (0, 1)), ((0, 1), (1, 0), (0, 1)), ((2, 1), (0, 1), (0, 2), (2, 1)),
    ((0, 1), None), (None, (0, 1)), ((0, 1), (1, 2, 0)), ((0, 1), ()),
)
NO_NUMBERS_OF_UNITS = (0, 10, 11, -1, -9, True, False, None, '', '3', (), (3,), [], [3], {},
                       9999999999999, -9999999999999)


class PlanTest(Case):

    def test_a_plan(self):
        plan = Plan(Unit(), Quiet(), tests=((0, 1), (1, 0)))
        self.is_plan(plan, ('plain', 'quiet'), ((0, 1), (1, 0)))

    def test_without_tests(self):
        self.is_plan(Plan(Unit(), Mute()), ('plain', 'mute'), ())
        self.is_plan(Plan(Unit(), Mute(), tests=()), ('plain', 'mute'), ())

    def test_one_unit(self):
        for kind in KINDS:
            self.is_plan(Plan(CLASSES[kind]()), (kind,), ())

    def test_all_kinds(self):
        units = [Unit(), Quiet(), Mild(), Harsh(), QuietMild(), QuietHarsh(), Mute(), Sure()]
        tests = tuple((number, (number + 3) % 8) for number in range(8))
        self.is_plan(Plan(*units, tests=tests), KINDS, tests)
        self.is_plan(Plan(*units[::-1], tests=tests), KINDS[::-1], tests)

    def test_each_number_of_units(self):
        for many in range(1, 10):
            kinds = tuple(KINDS[number % 8] for number in range(many))
            tests = ((many - 1, 0), (0, many - 1)) if many > 1 else ()
            self.is_plan(Plan(*units_of(*kinds), tests=tests), kinds, tests)

    def test_nine_units_with_all_tests(self):
        kinds = KINDS + ('plain',)
        tests = tuple(permutations(range(9), 2))
        plan = Plan(*units_of(*kinds), tests=tests)
        self.same((plan.many, plan.kinds, plan.tests), (9, kinds, tests))

    def test_a_unit_several_times(self):
        unit, mute = Unit(), Mute()
        tests = ((0, 1), (1, 3), (3, 1), (2, 0))
        plan = Plan(unit, mute, unit, mute, tests=tests)
        self.is_plan(plan, ('plain', 'mute', 'plain', 'mute'), tests)
        self.is_plan(Plan(*[unit] * 9), ('plain',) * 9, ())

    def test_tests_keep_their_order(self):
        tests = ((2, 0), (0, 1), (1, 2), (1, 0))
        self.is_plan(Plan(Unit(), Unit(), Unit(), tests=tests), ('plain',) * 3, tests)

    def test_no_unit_and_ten_units(self):
        self.raises(UnitsError, Plan)
        self.raises(UnitsError, Plan, tests=())
        for many in (10, 11, 20):
            self.raises(UnitsError, Plan, *[Unit() for _ in range(many)])
            self.raises(UnitsError, Plan, *[Unit()] * many)

    def test_what_is_not_a_unit(self):
        for thing in NO_UNITS:
            with self.subTest(thing=thing):
                self.raises(UnitsError, Plan, thing)
                self.raises(UnitsError, Plan, thing, Unit(), Quiet())
                self.raises(UnitsError, Plan, Unit(), thing, Quiet())
                self.raises(UnitsError, Plan, Unit(), Quiet(), thing)
                self.raises(UnitsError, Plan, *[Unit()] * 9, thing)

    def test_what_are_not_tests(self):
        for thing in NO_TESTS:
            with self.subTest(thing=thing):
                self.raises(TestsError, Plan, Unit(), Unit(), Unit(), tests=thing)
                self.raises(TestsError, Plan, Sure(), Quiet(), Mute(), tests=thing)

    def test_the_range_of_tests_depends_on_the_units(self):
        for many in range(1, 10):
            units = [Unit()] * many
            self.raises(TestsError, Plan, *units, tests=((0, many),))
            self.raises(TestsError, Plan, *units, tests=((many, 0),))
            self.raises(TestsError, Plan, *units, tests=((0, 0),))

    def test_units_error_comes_first(self):
        for thing in NO_TESTS:
            with self.subTest(thing=thing):
                self.raises(UnitsError, Plan, tests=thing)
                self.raises(UnitsError, Plan, Unit(), None, tests=thing)
                self.raises(UnitsError, Plan, *[Unit()] * 10, tests=thing)

    def test_most(self):
        self.same(Plan.MOST, 9)
        self.same(Plan.plain(2).MOST, 9)

    def test_a_plan_is_equal_to_itself(self):
        for plan in (Plan(Unit()), Plan.full(3), Plan(Sure(), Mute(), tests=((0, 1),))):
            self.assertTrue(plan == plan)

    def test_attributes_again(self):
        plan = Plan(Quiet(), Mild(), Sure(), tests=((2, 1), (0, 2)))
        for _ in range(3):
            self.is_plan(plan, ('quiet', 'mild', 'sure'), ((2, 1), (0, 2)))


class PlainTest(Case):

    def test_without_tests(self):
        for many in range(1, 10):
            plan = Plan.plain(many)
            self.assertIsInstance(plan, Plan)
            self.is_plan(plan, ('plain',) * many, ())

    def test_with_tests(self):
        self.is_plan(Plan.plain(2, (1, 0)), ('plain',) * 2, ((1, 0),))
        self.is_plan(Plan.plain(3, (0, 1), (1, 2), (2, 0)), ('plain',) * 3, ((0, 1), (1, 2), (2, 0)))
        tests = ((4, 1), (0, 3), (1, 4), (0, 1), (3, 2))
        self.is_plan(Plan.plain(5, *tests), ('plain',) * 5, tests)

    def test_with_many_tests(self):
        tests = tuple(permutations(range(8, -1, -1), 2))
        plan = Plan.plain(9, *tests)
        self.same((plan.many, plan.kinds, plan.tests), (9, ('plain',) * 9, tests))

    def test_wrong_numbers(self):
        for many in NO_NUMBERS_OF_UNITS:
            with self.subTest(many=many):
                self.raises(UnitsError, Plan.plain, many)
                self.raises(UnitsError, Plan.plain, many, (0, 1))

    def test_wrong_tests(self):
        for thing in NO_TESTS:
            if isinstance(thing, tuple):
                with self.subTest(thing=thing):
                    self.raises(TestsError, Plan.plain, 3, *thing)
        for thing in ([0, 1], [], (), None, 0, True, '01', {}, ((0, 1), (1, 2)), [(0, 1)]):
            with self.subTest(thing=thing):
                self.raises(TestsError, Plan.plain, 3, thing)
                self.raises(TestsError, Plan.plain, 3, (0, 1), thing)
        self.raises(TestsError, Plan.plain, 1, (0, 0))
        self.raises(TestsError, Plan.plain, 1, (0, 1))

    def test_units_error_comes_first(self):
        for many in NO_NUMBERS_OF_UNITS:
            for thing in NO_TESTS:
                self.raises(UnitsError, Plan.plain, many, thing)


class FullTest(Case):

    def test_small_ones(self):
        self.is_plan(Plan.full(1), ('plain',), ())
        self.is_plan(Plan.full(2), ('plain',) * 2, ((0, 1), (1, 0)))
        tests = ((0, 1), (0, 2), (1, 0), (1, 2), (2, 0), (2, 1))
        self.is_plan(Plan.full(3), ('plain',) * 3, tests)

    def test_each_number(self):
        for many in range(1, 10):
            plan = Plan.full(many)
            self.assertIsInstance(plan, Plan)
            self.same(plan.tests, tuple(sorted(permutations(range(many), 2))))
            self.same(len(plan.tests), many * (many - 1))
            self.same((plan.many, plan.kinds), (many, ('plain',) * many))

    def test_wrong_numbers(self):
        for many in NO_NUMBERS_OF_UNITS:
            with self.subTest(many=many):
                self.raises(UnitsError, Plan.full, many)


class JoinedTest(Case):

    def test_one(self):
        plan = Plan(Quiet(), Sure(), Unit(), tests=((2, 1), (0, 1)))
        joined = Plan.joined(plan)
        self.assertIsInstance(joined, Plan)
        self.is_plan(joined, ('quiet', 'sure', 'plain'), ((2, 1), (0, 1)))

    def test_two(self):
        one = Plan(Quiet(), Sure(), tests=((1, 0), (0, 1)))
        other = Plan(Mild(), Unit(), Mute(), tests=((2, 0), (0, 1)))
        tests = ((1, 0), (0, 1), (4, 2), (2, 3))
        self.is_plan(Plan.joined(one, other), ('quiet', 'sure', 'mild', 'plain', 'mute'), tests)
        tests = ((2, 0), (0, 1), (4, 3), (3, 4))
        self.is_plan(Plan.joined(other, one), ('mild', 'plain', 'mute', 'quiet', 'sure'), tests)

    def test_several(self):
        plans = (Plan(Mute()), Plan.plain(2, (1, 0)), Plan(Harsh()), Plan.plain(3, (2, 0), (0, 1)))
        kinds = ('mute', 'plain', 'plain', 'harsh', 'plain', 'plain', 'plain')
        self.is_plan(Plan.joined(*plans), kinds, ((2, 1), (6, 4), (4, 5)))

    def test_a_plan_several_times(self):
        plan = Plan(Unit(), Quiet(), tests=((0, 1),))
        kinds = ('plain', 'quiet') * 3
        self.is_plan(Plan.joined(plan, plan, plan), kinds, ((0, 1), (2, 3), (4, 5)))

    def test_up_to_nine_units(self):
        nine = Plan.joined(Plan.full(4), Plan.full(5))
        self.same(nine.many, 9)
        moved = [(tester + 4, tested + 4) for tester, tested in Plan.full(5).tests]
        self.same(nine.tests, Plan.full(4).tests + tuple(moved))
        self.same(Plan.joined(*[Plan(Sure())] * 9).kinds, ('sure',) * 9)
        self.same(Plan.joined(Plan.full(9)).tests, Plan.full(9).tests)

    def test_more_than_nine_units(self):
        self.raises(UnitsError, Plan.joined, Plan.full(5), Plan.full(5))
        self.raises(UnitsError, Plan.joined, Plan.full(9), Plan(Mute()))
        self.raises(UnitsError, Plan.joined, Plan(Mute()), Plan.full(9))
        self.raises(UnitsError, Plan.joined, *[Plan(Unit())] * 10)
        self.raises(UnitsError, Plan.joined, *[Plan.full(9)] * 9)

    def test_no_plan(self):
        self.raises(PlanError, Plan.joined)

    def test_what_is_not_a_plan(self):
        plan = Plan.full(3)
        things = (None, True, False, 0, 3, '', 'plain\n', Unit(), (), (plan,), (plan, plan), [],
                  [plan], {}, {0: plan})
        for thing in things:
            with self.subTest(thing=thing):
                self.raises(PlanError, Plan.joined, thing)
                self.raises(PlanError, Plan.joined, thing, plan)
                self.raises(PlanError, Plan.joined, plan, thing)
                self.raises(PlanError, Plan.joined, plan, thing, plan)

    def test_plan_error_comes_first(self):
        nine = Plan.full(9)
        for thing in (None, 'plain\n', Unit(), [nine]):
            self.raises(PlanError, Plan.joined, nine, nine, thing)
            self.raises(PlanError, Plan.joined, nine, thing, nine)
            self.raises(PlanError, Plan.joined, thing, nine, nine)

    def test_joined_plans_do_not_change(self):
        one, other = Plan(Quiet(), Unit(), tests=((1, 0),)), Plan.full(3)
        before = state_of(one), state_of(other)
        joined = Plan.joined(one, other, one)
        self.assertEqual((state_of(one), state_of(other)), before)
        self.raises(UnitsError, Plan.joined, one, other, Plan.full(5))
        self.raises(PlanError, Plan.joined, one, other, None)
        self.assertEqual((state_of(one), state_of(other)), before)
        self.assertEqual(state_of(Plan.joined(one, other, one)), state_of(joined))
