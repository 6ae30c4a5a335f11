"""[2] and [3]: the general rules."""

from copy import deepcopy

from testwatch.errors import NumberError, PlanError, SetError, TestsError, TextError, UnitsError
from testwatch.plans import Plan
from testwatch.units import Mute, Quiet, Sure, Unit
from tests.helpers import CLASSES, KINDS, WORDS, Case, state_of


class BoolsTest(Case):

    def test_a_bool_is_no_integer(self):
        plan = Plan.full(3)
        for wrong in (True, False):
            self.raises(UnitsError, Plan.plain, wrong)
            self.raises(UnitsError, Plan.full, wrong)
            self.raises(TestsError, Plan.plain, 3, (wrong, 2))
            self.raises(TestsError, Plan.plain, 3, (2, wrong))
            self.raises(NumberError, plan.allowed, wrong, ())
            self.raises(SetError, plan.allowed, 0, (wrong,))

    def test_great_integers(self):
        plan = Plan.full(3)
        for great in (9999999999999, -9999999999999):
            self.raises(UnitsError, Plan.plain, great)
            self.raises(UnitsError, Plan.full, great)
            self.raises(TestsError, Plan.plain, 3, (0, great))
            self.raises(NumberError, plan.allowed, great, ())
            self.raises(SetError, plan.allowed, 0, (0, great))


class ArgumentsTest(Case):

    def unchanged(self, error, action, *given, **named):
        before = deepcopy((given, named))
        self.raises(error, action, *given, **named)
        self.assertEqual((given, named), before)
        self.assertEqual(repr((given, named)), repr(before))

    def test_arguments_are_not_modified(self):
        plan = Plan.full(3)
        self.unchanged(TestsError, Plan.plain, 3, [1, 0])
        self.unchanged(TestsError, Plan.plain, 3, (0, 1), [2, 1], [2, 1])
        self.unchanged(UnitsError, Plan.full, [3])
        self.unchanged(SetError, plan.allowed, 0, [2, 1, 1])
        self.unchanged(SetError, plan.allowed, 0, {2: 1, 0: 1})
        self.unchanged(NumberError, plan.allowed, [0], [2, 1])
        self.unchanged(TextError, Plan.read, ['plain plain', '1 0', '0 1'])
        self.unchanged(PlanError, Plan.joined, [[3, 1], [2]])

    def test_lists_of_tests_and_of_units_are_not_modified(self):
        tests = [(2, 0), [1, 0], (2, 0)]
        self.raises(TestsError, Plan, Unit(), Unit(), Unit(), tests=tests)
        self.assertEqual(tests, [(2, 0), [1, 0], (2, 0)])
        units = [Unit(), Quiet()]
        before = list(units)
        self.raises(UnitsError, Plan, units)
        self.assertEqual(len(units), 2)
        self.assertTrue(all(one is other for one, other in zip(units, before)))

    def test_a_list_that_units_came_from_can_change(self):
        units = [Unit(), Quiet()]
        plan = Plan(*units, tests=((1, 0),))
        units.append(Mute())
        units[1] = Sure()
        self.is_plan(plan, ('plain', 'quiet'), ((1, 0),))


class NothingChangesTest(Case):

    def test_the_same_call_twice(self):
        self.assertEqual(state_of(Plan.full(4)), state_of(Plan.full(4)))
        self.assertEqual(state_of(Plan.plain(3, (2, 0))), state_of(Plan.plain(3, (2, 0))))
        unit, quiet = Unit(), Quiet()
        tests = ((1, 0), (0, 1))
        self.assertEqual(state_of(Plan(unit, quiet, tests=tests)), state_of(Plan(unit, quiet, tests=tests)))
        text = 'quiet sure\n1 0\n'
        self.assertEqual(state_of(Plan.read(text)), state_of(Plan.read(text)))
        plan = Plan.read(text)
        self.assertEqual(state_of(Plan.joined(plan, plan)), state_of(Plan.joined(plan, plan)))

    def test_one_plan_does_not_change_another(self):
        units = [CLASSES[kind]() for kind in KINDS]
        first = Plan(*units, tests=((0, 1), (6, 7)))
        before = state_of(first)
        second = Plan(*units[::-1], tests=((7, 6),))
        Plan.joined(first, Plan(Unit(), tests=()))
        Plan.plain(8, (3, 4))
        self.raises(UnitsError, Plan.joined, first, second)
        self.assertEqual(state_of(first), before)
        for kind, unit in zip(KINDS, units):
            self.same(unit.words(), WORDS[kind])

    def test_calls_that_raise_change_nothing(self):
        plan = Plan(Quiet(), Sure(), Unit(), tests=((2, 0), (0, 1)))
        before = state_of(plan)
        self.raises(UnitsError, Plan)
        self.raises(UnitsError, Plan, None, tests=((0, 1),))
        self.raises(TestsError, Plan, Unit(), Unit(), tests=((0, 1), (0, 1)))
        self.raises(UnitsError, Plan.plain, 10, (0, 1))
        self.raises(TestsError, Plan.plain, 2, (0, 1), (0, 2))
        self.raises(UnitsError, Plan.full, 10)
        self.raises(TextError, Plan.read, 'quiet sure plain\n2 0\n0 1\n0 1\n')
        self.raises(PlanError, Plan.joined, plan, None)
        self.raises(UnitsError, Plan.joined, plan, plan, plan, plan)
        self.raises(NumberError, plan.allowed, 2, (0,))
        self.raises(SetError, plan.allowed, 1, (1, 0))
        self.assertEqual(state_of(plan), before)
        self.same(Plan.MOST, 9)
        self.is_plan(Plan(Unit()), ('plain',), ())
        self.is_plan(Plan.plain(2), ('plain',) * 2, ())

    def test_equal_to_itself(self):
        unit, plan = Mute(), Plan.full(2)
        self.assertTrue(unit == unit)
        self.assertTrue(plan == plan)
