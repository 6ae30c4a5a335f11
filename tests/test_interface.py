"""The interface: where each name is defined, and what its arguments are called."""

import inspect
import unittest

from testwatch import confusions, design, errors, plans, reports, units, watches

FUNCTIONS = {
    reports: {
        'are_reports': ['plan', 'thing'],
        'explains': ['plan', 'reports', 'bad'],
        'explanations': ['plan', 'reports', 'most'],
        'sure_bad': ['plan', 'reports', 'most'],
        'sure_good': ['plan', 'reports', 'most'],
    },
    confusions: {
        'told_apart': ['plan', 'one', 'other'],
        'common': ['plan', 'one', 'other'],
        'confusion': ['plan', 'most'],
        'is_confusion': ['plan', 'most', 'thing'],
        'finds': ['plan', 'most'],
        'strength': ['plan'],
    },
    design: {
        'needless': ['plan', 'most'],
        'lean': ['plan', 'most'],
        'more': ['plan', 'most'],
        'worst': ['plan', 'reports', 'most', 'test'],
        'next_test': ['plan', 'reports', 'most'],
    },
}
CLASSES = {
    errors: ['WatchError', 'UnitsError', 'TestsError', 'PlanError', 'SetError', 'ReportsError', 'NumberError',
             'VerdictError', 'TextError', 'NoneError', 'WeakError', 'NothingError', 'ApartError', 'LimitError'],
    units: ['Unit', 'Quiet', 'Mild', 'Harsh', 'QuietMild', 'QuietHarsh', 'Mute', 'Sure'],
    plans: ['Plan'],
    watches: ['Watch'],
}
METHODS = {
    plans.Plan: {
        'plain': ['many', '*tests'],
        'full': ['many'],
        'read': ['text'],
        'joined': ['*plans'],
        'allowed': ['self', 'number', 'bad'],
        'text': ['self'],
    },
    watches.Watch: {
        '__init__': ['self', 'plan', 'most'],
        'assign': ['self', 'reports'],
        'tell': ['self', 'number', 'report'],
        'left': ['self'],
        'count': ['self'],
        'undo': ['self'],
        'supposing': ['self', '*bad'],
        'count_supposing': ['self', '*bad'],
    },
}


def arguments_of(function):
    return [str(argument) for argument in inspect.signature(function).parameters.values()]


class InterfaceTest(unittest.TestCase):

    def test_functions(self):
        for module, functions in FUNCTIONS.items():
            for name, arguments in functions.items():
                with self.subTest(name=name):
                    function = getattr(module, name)
                    self.assertEqual(function.__module__, module.__name__)
                    self.assertEqual(arguments_of(function), arguments)

    def test_classes(self):
        for module, names in CLASSES.items():
            for name in names:
                with self.subTest(name=name):
                    self.assertEqual(getattr(module, name).__module__, module.__name__)

    def test_methods_stand_in_their_classes(self):
        for owner, methods in METHODS.items():
            for name, arguments in methods.items():
                with self.subTest(owner=owner.__name__, name=name):
                    self.assertIn(name, vars(owner))
                    self.assertEqual(arguments_of(getattr(owner, name)), arguments)
        for name in CLASSES[units]:
            own = vars(getattr(units, name))
            self.assertEqual(arguments_of(own['words']), ['self'])
            self.assertEqual(arguments_of(own['allowed']), ['self', 'is_bad', 'verdict'])
            self.assertIn('KIND', own)
        self.assertIsInstance(vars(units.Unit)['verdict'], staticmethod)
        self.assertIsInstance(vars(plans.Plan)['joined'], staticmethod)
        for name in ('plain', 'full', 'read'):
            self.assertIsInstance(vars(plans.Plan)[name], classmethod)

    def test_properties(self):
        for owner, name in ((plans.Plan, 'many'), (plans.Plan, 'kinds'), (watches.Watch, 'reports'),
                            (watches.Watch, 'changes')):
            self.assertIsInstance(vars(owner)[name], property)

    def test_generators(self):
        self.assertTrue(inspect.isgeneratorfunction(reports.explanations))
        self.assertTrue(inspect.isgeneratorfunction(watches.Watch.left))
