"""The exceptions that the interface lists."""

from testwatch.errors import (
    ApartError, LimitError, NoneError, NothingError, NumberError, PlanError, ReportsError,
    SetError, TestsError, TextError, UnitsError, VerdictError, WatchError, WeakError,
)
from tests.helpers import Case

WITH_MESSAGE = (
    UnitsError, TestsError, PlanError, SetError, ReportsError, NumberError, VerdictError,
    TextError, NoneError, WeakError, NothingError,
)
ALL = WITH_MESSAGE + (ApartError, LimitError)


class ErrorsTest(Case):

    def test_watch_error_is_a_value_error(self):
        self.assertEqual(WatchError.__bases__, (ValueError,))

    def test_each_is_a_direct_subclass(self):
        for error in ALL:
            with self.subTest(error=error.__name__):
                self.assertEqual(error.__bases__, (WatchError,))

    def test_each_is_a_class_of_its_own(self):
        names = ['UnitsError', 'TestsError', 'PlanError', 'SetError', 'ReportsError',
                 'NumberError', 'VerdictError', 'TextError', 'NoneError', 'WeakError',
                 'NothingError', 'ApartError', 'LimitError']
        self.assertEqual([error.__name__ for error in ALL], names)
        for error in ALL:
            for other in ALL:
                self.assertEqual(issubclass(error, other), error is other)

    def test_each_is_raised_with_a_message(self):
        for error in WITH_MESSAGE:
            with self.subTest(error=error.__name__):
                with self.assertRaises(ValueError) as caught:
                    raise error('why it is raised')
                self.assertIs(type(caught.exception), error)
                self.assertIsInstance(caught.exception, WatchError)
                self.assertIn('why it is raised', str(caught.exception))

    def test_apart_error_has_the_number(self):
        for number in (0, 1, 71):
            with self.assertRaises(WatchError) as caught:
                raise ApartError(number)
            self.assertIs(type(caught.exception), ApartError)
            self.same(caught.exception.number, number)

    def test_limit_error_has_the_amount_and_the_limit(self):
        for amount, limit in ((5, 4), (9, 4), (4, 5), (0, 0)):
            with self.assertRaises(WatchError) as caught:
                raise LimitError(amount, limit)
            self.assertIs(type(caught.exception), LimitError)
            self.same(caught.exception.amount, amount)
            self.same(caught.exception.limit, limit)

    def test_fields_belong_to_each_error_alone(self):
        first, second = ApartError(1), ApartError(2)
        self.assertEqual((first.number, second.number), (1, 2))
        first, second = LimitError(5, 4), LimitError(6, 3)
        self.assertEqual((first.amount, first.limit), (5, 4))
        self.assertEqual((second.amount, second.limit), (6, 3))
