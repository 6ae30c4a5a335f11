"""The examples in README.md."""

import doctest
import os
import unittest

README = os.path.join(os.path.dirname(os.path.dirname(os.path.abspath(__file__))), 'README.md')


class ReadmeTest(unittest.TestCase):

    def test_examples(self):
        # The wording of messages is free, so that it is not compared.
        result = doctest.testfile(README, module_relative=False, encoding='utf-8',
                                  optionflags=doctest.IGNORE_EXCEPTION_DETAIL)
        self.assertGreater(result.attempted, 0)
        self.assertEqual(result.failed, 0)
