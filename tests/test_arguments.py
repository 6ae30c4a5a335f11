"""[2], [3] and the interface: wrong arguments, and what stays as it was."""

from copy import deepcopy
from itertools import combinations

from testwatch import confusions, design, reports, watches
from testwatch.errors import (
    ApartError, LimitError, NoneError, NumberError, PlanError, ReportsError, SetError, TestsError, WeakError,
)
from testwatch.plans import Plan
from testwatch.units import Mute, Sure, Unit
from tests.helpers import Case, state_of
from tests.wrong import WRONG, three


def explanations(plan, rows, most):
    return list(reports.explanations(plan, rows, most))


RIGHT = {
    'reports': ('good', 'bad', 'bad'),
    'most': 1,
    'bad': (0, 2),
    'one': (0,),
    'other': (0, 1),
    'test': (1, 0),
    'thing': ((0,), (0, 1), ('bad', 'good', 'bad')),
}
CALLS = (
    (reports.are_reports, ('plan', 'thing')),
    (reports.explains, ('plan', 'reports', 'bad')),
    (explanations, ('plan', 'reports', 'most')),
    (reports.sure_bad, ('plan', 'reports', 'most')),
    (reports.sure_good, ('plan', 'reports', 'most')),
    (confusions.told_apart, ('plan', 'one', 'other')),
    (confusions.common, ('plan', 'one', 'other')),
    (confusions.confusion, ('plan', 'most')),
    (confusions.is_confusion, ('plan', 'most', 'thing')),
    (confusions.finds, ('plan', 'most')),
    (confusions.strength, ('plan',)),
    (design.needless, ('plan', 'most')),
    (design.lean, ('plan', 'most')),
    (design.more, ('plan', 'most')),
    (design.worst, ('plan', 'reports', 'most', 'test')),
    (design.next_test, ('plan', 'reports', 'most')),
    (watches.Watch, ('plan', 'most')),
)


def given_for(names):
    """Right arguments for these names."""
    return [three() if name == 'plan' else RIGHT[name] for name in names]


def written(values):
    """What can be seen of values, plans by all that they tell."""
    return [state_of(value) if isinstance(value, Plan) else repr(value) for value in values]


class WrongArgumentsTest(Case):

    def test_right_arguments(self):
        for action, names in CALLS:
            with self.subTest(action=action.__name__):
                action(*given_for(names))

    def test_each_place(self):
        for action, names in CALLS:
            for at, name in enumerate(names):
                if name == 'thing':
                    continue
                error, values = WRONG[name]
                for value in values:
                    with self.subTest(action=action.__name__, name=name, value=value):
                        given = given_for(names)
                        given[at] = value
                        before = written(given)
                        self.raises(error, action, *given)
                        self.raises(error, action, *given)
                        self.assertEqual(written(given), before)

    def test_the_first_of_several_wrong_arguments(self):
        for action, names in CALLS:
            wrong = [at for at, name in enumerate(names) if name != 'thing']
            for first, second in combinations(wrong, 2):
                error, values = WRONG[names[first]]
                for value in values:
                    for other in WRONG[names[second]][1][::5]:
                        given = given_for(names)
                        given[first], given[second] = value, other
                        self.raises(error, action, *given)

    def test_a_plan_without_tests(self):
        plan = Plan.plain(3)
        for bad in WRONG['bad'][1]:
            for action in (confusions.told_apart, confusions.common):
                self.raises(SetError, action, plan, bad, ())
                self.raises(SetError, action, plan, (0,), bad)
            self.raises(SetError, reports.explains, plan, (), bad)
        for rows in WRONG['reports'][1]:
            if repr(rows) != '()':
                self.raises(ReportsError, reports.explains, plan, rows, (0,))
                self.raises(ReportsError, explanations, plan, rows, 3)
                self.raises(ReportsError, design.next_test, plan, rows, 3)
                self.raises(ReportsError, watches.Watch(plan, 3).assign, rows)

    def test_all_arguments_wrong(self):
        for action, names in CALLS:
            self.raises(PlanError, action, *[[None]] * len(names))
            self.raises(PlanError, action, *[True] * len(names))
        self.raises(ReportsError, design.worst, three(), [], True, (True, 0))
        self.raises(NumberError, design.worst, three(), RIGHT['reports'], True, (True, 0))
        self.raises(TestsError, design.worst, three(), RIGHT['reports'], 1, (True, 0))

    def test_a_generator_raises_when_it_is_first_iterated(self):
        for error, given in ((PlanError, (None, None, None)), (ReportsError, (three(), ['good'], True)),
                             (NumberError, (three(), RIGHT['reports'], 4)),
                             (NumberError, (three(), RIGHT['reports'], True))):
            generator = reports.explanations(*given)
            self.raises(error, next, generator)
            self.raises(error, list, reports.explanations(*given))

    def test_arguments_are_checked_before_all_other_exceptions(self):
        silent = ('silent', 'bad', 'bad')
        sure = Plan(Sure(), Unit(), tests=((0, 1),))
        for action in (reports.sure_bad, reports.sure_good):
            self.raises(NoneError, action, three(), silent, 3)
            self.raises(NumberError, action, three(), silent, 4)
            self.raises(NumberError, action, three(), silent, True)
            self.raises(ReportsError, action, three(), list(silent), 0)
            self.raises(NumberError, action, sure, ('silent',), 3)
        self.raises(ApartError, confusions.common, three(), (), (1,))
        self.raises(SetError, confusions.common, three(), (), (1, 0))
        self.raises(SetError, confusions.common, three(), [], (1,))
        for action in (design.needless, design.lean):
            self.raises(WeakError, action, three(), 3)
            self.raises(NumberError, action, three(), 4)
            self.raises(NumberError, action, Plan(Unit()), True)
        self.raises(LimitError, design.more, Plan.full(5), 5)
        self.raises(NumberError, design.more, Plan.full(5), 6)
        self.raises(NumberError, design.more, Plan.full(9), True)
        self.raises(PlanError, design.more, Unit(), 6)
        # A plan with all tests, to which no test can be added.
        self.raises(NumberError, design.next_test, Plan.full(2), ('good', 'good'), 3)
        self.raises(ReportsError, design.next_test, Plan.full(2), ('good',), 3)
        self.raises(TestsError, design.worst, Plan.full(2), ('good', 'good'), 2, (0, 1))

    def test_limits_go_with_the_units(self):
        for many in range(1, 10):
            plan = Plan.plain(many)
            self.same(confusions.finds(plan, many), False)
            self.raises(NumberError, confusions.finds, plan, many + 1)
            self.raises(NumberError, confusions.is_confusion, plan, many + 1, ())
            self.raises(NumberError, watches.Watch, plan, many + 1)
            self.raises(NumberError, explanations, plan, (), many + 1)
            self.raises(SetError, reports.explains, plan, (), (many,))
            self.same(confusions.told_apart(plan, (many - 1,), tuple(range(many))), None)
            self.raises(SetError, confusions.told_apart, plan, (many - 1,), tuple(range(many + 1)))
            self.raises(TestsError, design.worst, plan, (), many, (0, many))
            self.raises(TestsError, design.worst, plan, (), many, (many, 0))


class UnchangedTest(Case):

    def check(self, action, *given):
        """Check that a call gives an equal result again, and leaves its arguments as they were."""
        before = written(given)
        first = action(*given)
        again = action(*given)
        self.same(again, first)
        self.assertEqual(written(given), before)

    def test_right_arguments(self):
        for action, names in CALLS:
            if action is not watches.Watch:
                self.check(action, *given_for(names))

    def test_another_plan(self):
        plan = Plan(Mute(), Unit(), Sure(), Unit(), tests=((3, 0), (0, 1), (2, 3), (1, 2), (1, 3)))
        rows = ('bad', 'silent', 'good', 'bad', 'good')
        self.check(reports.are_reports, plan, rows)
        self.check(reports.explains, plan, rows, (0, 2))
        self.check(explanations, plan, rows, 4)
        self.check(confusions.told_apart, plan, (0,), (0, 3))
        self.check(confusions.confusion, plan, 4)
        self.check(confusions.strength, plan)
        self.check(design.lean, plan, confusions.strength(plan))
        self.check(design.needless, plan, confusions.strength(plan))
        self.check(design.more, plan, 2)
        self.check(design.worst, plan, rows, 4, (3, 1))
        self.check(design.next_test, plan, rows, 4)

    def test_values_to_be_judged(self):
        deep = [1, [2, [3, [4, [5, [6, [7, ['bad']]]]]]]]
        wide = [None] * 1990
        things = (
            deep, wide, {'one': [0], 'other': {0: [1]}}, [[0], [0, 1], ['bad', 'good', 'bad']], (deep, wide, []),
            ((0,), (0, 1), ['bad', 'good', 'bad']), ((0,), [0, 1], ('bad', 'good', 'bad')), ({}, [], ()),
            (['bad'], {'good': 'bad'}, 'bad'), ['good', 'bad', 'bad'], ([], [], []), {(0, 1): [True, False]},
        )
        for thing in things:
            before = deepcopy(thing)
            for _ in range(2):
                self.same(reports.are_reports(three(), thing), False)
                self.same(confusions.is_confusion(three(), 3, thing), False)
            self.assertEqual(thing, before)
            self.assertEqual(repr(thing), repr(before))

    def test_returned_values_passed_back(self):
        plan = three()
        found = confusions.confusion(plan, 2)
        self.same(confusions.is_confusion(plan, 2, found), True)
        one, other, rows = found
        self.same(explanations(plan, rows, 2), [one, other, (1, 2)])
        watch = watches.Watch(plan, 2)
        watch.reports = rows
        self.same(list(watch.left()), explanations(plan, rows, 2))
        number, test = design.next_test(plan, rows, 2)
        self.same(design.worst(plan, rows, 2, test), number)
        added = Plan.plain(3, *plan.tests, test)
        self.raises(TestsError, design.worst, added, rows + ('bad',), 2, test)

    def test_keywords(self):
        for action, names in CALLS:
            if action is not explanations and action is not watches.Watch:
                given = given_for(names)
                self.same(action(**dict(zip(names, given))), action(*given))
        rows = RIGHT['reports']
        self.same(list(reports.explanations(plan=three(), reports=rows, most=1)), explanations(three(), rows, 1))
        self.same(watches.Watch(plan=three(), most=1).count(), 4)
