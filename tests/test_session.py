"""[1]: the session."""

import doctest
import unittest

SESSION = """
>>> from testwatch.plans import Plan
>>> from testwatch.reports import explanations
>>> from testwatch.confusions import strength, confusion
>>> plan = Plan.plain(3, (0, 1), (1, 2), (2, 0))
>>> list(explanations(plan, ('good', 'bad', 'bad'), 1))
[(2,)]
>>> strength(plan)
1
>>> confusion(plan, 2)
((0,), (0, 1), ('bad', 'good', 'bad'))
"""


class SessionTest(unittest.TestCase):

    def test_session(self):
        test = doctest.DocTestParser().get_doctest(SESSION, {}, 'session', None, 0)
        result = doctest.DocTestRunner().run(test)
        self.assertEqual((result.failed, result.attempted), (0, 7))
