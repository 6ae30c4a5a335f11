"""Values that are refused, for a plan of three units with three tests.

Each entry of WRONG is (error, values): what is raised for each of the values
where an argument of this name is expected.
"""

from testwatch.errors import NumberError, PlanError, ReportsError, SetError, TestsError
from testwatch.plans import Plan
from testwatch.units import Unit
from testwatch.watches import Watch

TESTS = ((0, 1), (1, 2), (2, 0))


def three():
    """The plan that the values are wrong for."""
    return Plan.plain(3, *TESTS)


GREAT = (9999999999999, -9999999999999)
NO_PLANS = (
    None, True, False, 0, 3, '', 'plain plain plain\n', Plan, Unit(), Unit, TESTS, (), (three(),), [],
    [three()], {}, {'plan': three()}, Watch(three(), 3),
)
NO_NUMBERS = (-1, -2, -3, 3, 4, 9, *GREAT, True, False, None, '', '0', '1', (), (0,), (0, 1), [],
              [0], {}, {0: 1})
NO_MOSTS = (-1, -2, -3, 4, 5, 9, *GREAT, True, False, None, '', '0', '1', (), (0,), (1,), (0, 1),
            [], [0], [1], {}, {0: 1})
NO_SETS = (
    [], [0], [0, 1], [0, 1, 2], None, True, False, 0, 1, 2, '', '0', '01', 'bad', {}, {0: True},
    {0: 1, 1: 2},
    (1, 0), (2, 0), (2, 1), (0, 2, 1), (1, 0, 2), (2, 1, 0),
    (0, 0), (1, 1), (2, 2), (0, 0, 1), (0, 1, 1), (0, 1, 0), (0, 1, 2, 2), (0, 0, 1, 2),
    (3,), (0, 3), (0, 1, 2, 3), (-1,), (-1, 0), (-3, 1), (9,), (0, 9999999999999),
    (-9999999999999,),
    (True,), (False,), (0, True), (False, 1), (True, 2), (False, True), (False, True, 2),
    (None,), (0, None), ('0',), ('bad',), ('0', '1'), (0, '1'), ('',),
    ((),), ((0,),), (0, (1,)), ([],), ([0],), (0, [1]), ({},), ((0, 1), (1, 2)),
)
# What is no report; None is one in no place.
NO_REPORT = (
    None, True, False, 0, 1, -1, 9999999999999, '', 'Bad', 'GOOD', 'bad ', ' good', 'good\n', 'b', 'o',
    'silence', 'silen', 'goodbad', 'plain', (), ('good',), ('bad', 'good', 'silent'), [], ['good'],
    ['bad', 'silent'], {}, {'bad': 'good'}, {'good': True},
)
_PLACES = ((), ('bad',), ('bad', 'silent'))
_OUTLINES = (
    [], ['good', 'bad', 'bad'], ['silent'] * 3, None, True, False, 0, 1, 3, '', 'bad', 'good', 'goodbadbad',
    {}, {'good': 'bad', 'bad': 'bad', 'silent': 'good'}, {0: 'good', 1: 'bad', 2: 'bad'},
    (), ('good',), ('good', 'bad'), ('good', 'bad', 'bad', 'bad'), ('silent',) * 6,
    (('good', 'bad', 'bad'),), (('good',), ('bad',), ('bad',)), ('good', ('bad', 'bad')),
    ['good', ('bad', 'bad')], ((((((('good', 'bad', 'bad'),),),),),),),
)


def _with_wrong_places(things):
    return tuple(left + (thing,) + ('good', 'bad', 'silent')[len(left) + 1:]
                 for thing in things for left in _PLACES)


# Refused where None may stand for a report, too.
NO_PARTIAL_REPORTS = _OUTLINES + _with_wrong_places(NO_REPORT[1:]) + (
    [None, None, None], (None,), (None, None), (None,) * 4, (None, 'bad', ['good']), ((None,), 'bad', 'good'),
    (None, None, True), (0, None, None), (None, '', None),
)
NO_REPORTS = _OUTLINES + _with_wrong_places(NO_REPORT) + (
    (None, None, None), (None, 'bad', None), ('good', None, None), [None, 'bad', 'good'],
)
NO_NEW_TESTS = (
    (0, 1), (1, 2), (2, 0),
    [1, 0], [], None, True, False, 0, 1, '', '10', '1 0', {}, {1: 0}, {1: True, 0: True},
    (), (1,), (1, 0, 2), (1, 0, 0), ((1, 0),), ((1,), (0,)), ((1, 0), (2, 1)), [(1, 0)],
    (0, 0), (1, 1), (2, 2), (0, 3), (3, 0), (-1, 0), (1, -3), (2, -2), (1, 9999999999999),
    (-9999999999999, 0), (True, 0), (1, False), (2, True), (False, 2), (True, False), (1, None),
    (None, 0), ('1', '0'), (1, '0'), (1, [0]), ([1], 0), (1, (0,)),
)
# Several units, handed in one by one; their order does not matter.
NO_SUPPOSITIONS = (
    (0, 0), (1, 1), (2, 2), (0, 0, 1), (0, 1, 1), (0, 1, 0), (2, 1, 2), (0, 1, 2, 2), (0, 1, 2, 0),
    (3,), (0, 3), (3, 0), (0, 1, 2, 3), (-1,), (0, -1), (-3, 1), (9,), (0, 9999999999999), (-9999999999999,),
    (True,), (False,), (0, True), (True, 0), (False, 1), (True, 2), (True, False), (2, False, True),
    (None,), (0, None), (None, 0), ('0',), ('bad',), ('0', '1'), (0, '1'), ('',), ((),), ((0,),), ((0, 1),),
    (0, (1,)), ([],), ([0],), ([0, 1],), (0, [1]), ({},), ({0: 1},), ((0, 1), (1, 2)),
)

WRONG = {
    'plan': (PlanError, NO_PLANS),
    'most': (NumberError, NO_MOSTS),
    'number': (NumberError, NO_NUMBERS),
    'reports': (ReportsError, NO_REPORTS),
    'partial': (ReportsError, NO_PARTIAL_REPORTS),
    'report': (ReportsError, NO_REPORT),
    'bad': (SetError, NO_SETS),
    'one': (SetError, NO_SETS),
    'other': (SetError, NO_SETS),
    'test': (TestsError, NO_NEW_TESTS),
}
