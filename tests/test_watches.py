"""[40] and [41]: watches and suppositions."""

from random import Random

from testwatch.errors import NothingError, NumberError, ReportsError, SetError
from testwatch.plans import Plan
from testwatch.reports import explanations
from testwatch.units import Quiet, Sure, Unit
from testwatch.watches import Watch
from tests.helpers import KINDS, REPORTS, Case, expected_allowed, sets_of, some_plans, units_of, with_tests
from tests.wrong import NO_NUMBERS, NO_PARTIAL_REPORTS, NO_REPORT, NO_SUPPOSITIONS, three

ALL = [(), (0,), (1,), (2,), (0, 1), (0, 2), (1, 2), (0, 1, 2)]


def expected_left(plan, most, reports, supposed=()):
    return [bad for bad in sets_of(plan.many, most)
            if set(supposed) <= set(bad)
            and all(report is None or report in expected_allowed(plan.kinds, plan.tests, number, bad)
                    for number, report in enumerate(reports))]


def set_reports(watch, reports):
    watch.reports = reports


def state_of(watch):
    return watch.reports, watch.changes, list(watch.left()), watch.count()


class WatchCase(Case):

    def holds(self, watch, plan, most, reports, changes, supposed=()):
        """Check all that a watch tells."""
        left = expected_left(plan, most, reports, supposed)
        for _ in range(2):
            self.same(watch.reports, reports)
            self.same(watch.changes, changes)
            self.same(list(watch.left()), left)
            self.same(watch.count(), len(left))


class WatchTest(WatchCase):

    def test_a_new_watch(self):
        for plan in some_plans(30, 5, 70):
            for most in range(plan.many + 1):
                self.holds(Watch(plan, most), plan, most, (None,) * len(plan.tests), 0)
        watch = Watch(three(), 3)
        self.same(watch.reports, (None, None, None))
        self.same(list(watch.left()), ALL)
        self.same(list(Watch(three(), 1).left()), ALL[:4])
        self.same(list(Watch(three(), 0).left()), [()])

    def test_tell(self):
        watch = Watch(three(), 3)
        self.assertIsNone(watch.tell(1, 'bad'))
        self.same(watch.reports, (None, 'bad', None))
        self.same(list(watch.left()), [(1,), (2,), (0, 1), (0, 2), (1, 2), (0, 1, 2)])
        watch.tell(0, 'good')
        self.same(watch.reports, ('good', 'bad', None))
        self.same(list(watch.left()), [(2,), (0, 1), (0, 2), (0, 1, 2)])
        watch.tell(2, 'bad')
        self.same(watch.reports, ('good', 'bad', 'bad'))
        self.same(list(watch.left()), [(2,), (0, 1), (0, 2), (0, 1, 2)])
        self.same((watch.count(), watch.changes), (4, 3))

    def test_tell_in_place_of_an_earlier_one(self):
        watch = Watch(three(), 3)
        for at, report in enumerate(('good', 'bad', 'silent', 'silent', 'good')):
            watch.tell(0, report)
            self.holds(watch, three(), 3, (report, None, None), at + 1)

    def test_the_same_report_again(self):
        watch = Watch(three(), 3)
        watch.tell(2, 'good')
        watch.tell(2, 'good')
        self.holds(watch, three(), 3, (None, None, 'good'), 2)
        watch.undo()
        self.holds(watch, three(), 3, (None, None, 'good'), 1)
        watch.undo()
        self.holds(watch, three(), 3, (None, None, None), 0)

    def test_assign(self):
        watch = Watch(three(), 3)
        self.assertIsNone(watch.assign(('good', None, 'bad')))
        self.holds(watch, three(), 3, ('good', None, 'bad'), 1)
        watch.assign((None, None, 'silent'))
        self.holds(watch, three(), 3, (None, None, 'silent'), 2)
        watch.assign(('bad', 'bad', 'bad'))
        self.holds(watch, three(), 3, ('bad', 'bad', 'bad'), 3)
        watch.assign((None, None, None))
        self.holds(watch, three(), 3, (None, None, None), 4)

    def test_assign_as_an_attribute(self):
        watch = Watch(three(), 2)
        watch.reports = ('good', None, 'bad')
        self.holds(watch, three(), 2, ('good', None, 'bad'), 1)
        watch.reports = ('good', None, 'bad')
        self.holds(watch, three(), 2, ('good', None, 'bad'), 2)
        watch.tell(1, 'bad')
        self.holds(watch, three(), 2, ('good', 'bad', 'bad'), 3)
        watch.reports = watch.reports[:2] + (None,)
        self.holds(watch, three(), 2, ('good', 'bad', None), 4)
        for reports in (('good', 'bad', 'bad'), ('good', None, 'bad'), ('good', None, 'bad'), (None, None, None)):
            watch.undo()
            self.same(watch.reports, reports)
        self.raises(NothingError, watch.undo)

    def test_the_same_reports_again(self):
        watch = Watch(three(), 2)
        watch.assign((None, None, None))
        self.holds(watch, three(), 2, (None, None, None), 1)
        watch.assign(('bad', 'bad', 'bad'))
        watch.reports = watch.reports
        self.holds(watch, three(), 2, ('bad', 'bad', 'bad'), 3)
        watch.undo()
        self.holds(watch, three(), 2, ('bad', 'bad', 'bad'), 2)

    def test_undo(self):
        watch = Watch(three(), 3)
        self.raises(NothingError, watch.undo)
        watch.tell(0, 'bad')
        watch.tell(1, 'good')
        self.assertIsNone(watch.undo())
        self.holds(watch, three(), 3, ('bad', None, None), 1)
        watch.tell(2, 'good')
        watch.undo()
        watch.undo()
        self.holds(watch, three(), 3, (None, None, None), 0)
        self.raises(NothingError, watch.undo)
        self.raises(NothingError, watch.undo)
        self.holds(watch, three(), 3, (None, None, None), 0)
        watch.tell(0, 'good')
        self.holds(watch, three(), 3, ('good', None, None), 1)

    def test_full_reports_leave_the_explanations(self):
        for plan in some_plans(40, 4, 71):
            random = Random(71)
            for most in range(plan.many + 1):
                reports = tuple(random.choice(REPORTS) for _ in plan.tests)
                watch = Watch(plan, most)
                for number, report in enumerate(reports):
                    watch.tell(number, report)
                self.same(list(watch.left()), list(explanations(plan, reports, most)))
                other = Watch(plan, most)
                other.reports = reports
                self.same(list(other.left()), list(explanations(plan, reports, most)))
                self.same((watch.changes, other.changes), (len(reports), 1))

    def test_many_changes(self):
        for seed, plan in enumerate(some_plans(30, 4, 72)):
            self.many_changes(plan, Random(seed))

    def many_changes(self, plan, random):
        most = random.randint(0, plan.many)
        watch, past, reports = Watch(plan, most), [], (None,) * len(plan.tests)
        for _ in range(25):
            step = random.choice(('tell', 'assign', 'attribute', 'undo', 'undo'))
            if step == 'undo' and past:
                watch.undo()
                reports = past.pop()
            elif step == 'undo':
                self.raises(NothingError, watch.undo)
            elif step == 'tell' and plan.tests:
                past.append(reports)
                number, report = random.randrange(len(plan.tests)), random.choice(REPORTS)
                watch.tell(number, report)
                reports = reports[:number] + (report,) + reports[number + 1:]
            else:
                past.append(reports)
                reports = tuple(random.choice((None, None, *REPORTS)) for _ in plan.tests)
                if step == 'assign':
                    watch.assign(reports)
                else:
                    watch.reports = reports
            self.holds(watch, plan, most, reports, len(past))

    def test_two_watches_over_one_plan(self):
        plan = Plan(Quiet(), Unit(), Sure(), tests=((0, 1), (1, 2), (2, 0)))
        text = plan.text()
        one, other = Watch(plan, 3), Watch(plan, 1)
        one.tell(0, 'silent')
        self.holds(one, plan, 3, ('silent', None, None), 1)
        self.holds(other, plan, 1, (None, None, None), 0)
        other.reports = ('good', 'bad', None)
        self.raises(NothingError, Watch(plan, 1).undo)
        self.holds(one, plan, 3, ('silent', None, None), 1)
        self.holds(other, plan, 1, ('good', 'bad', None), 1)
        with one.supposing(0, 1):
            self.holds(one, plan, 3, ('silent', None, None), 1, (0, 1))
            self.holds(other, plan, 1, ('good', 'bad', None), 1)
            with other.supposing(1):
                self.holds(other, plan, 1, ('good', 'bad', None), 1, (1,))
                self.holds(one, plan, 3, ('silent', None, None), 1, (0, 1))
        one.undo()
        self.holds(one, plan, 3, (None, None, None), 0)
        self.holds(other, plan, 1, ('good', 'bad', None), 1)
        self.same(plan.text(), text)

    def test_without_tests(self):
        watch = Watch(Plan.plain(2), 2)
        self.holds(watch, Plan.plain(2), 2, (), 0)
        watch.assign(())
        watch.reports = ()
        self.holds(watch, Plan.plain(2), 2, (), 2)
        self.raises(NumberError, watch.tell, 0, 'good')
        self.raises(ReportsError, watch.assign, (None,))
        self.same(watch.count_supposing(1), 2)

    def test_nine_units_with_all_tests(self):
        plan = with_tests(Plan(*units_of('plain', *KINDS)), Plan.full(9).tests)
        watch = Watch(plan, 9)
        self.same(watch.count(), 512)
        for number in range(0, 72, 5):
            watch.tell(number, REPORTS[number % 2])
            self.same(list(watch.left()), expected_left(plan, 9, watch.reports))
        self.same(watch.changes, 15)

    def test_left_goes_by_the_reports_that_it_began_with(self):
        watch = Watch(three(), 3)
        left = watch.left()
        self.same(next(left), ())
        watch.assign(('silent',) * 3)
        self.same(list(left), ALL[1:])
        self.same(list(watch.left()), [])

    def test_a_watch_is_equal_to_itself(self):
        watch = Watch(three(), 1)
        self.assertTrue(watch == watch)


class RefusedTest(WatchCase):

    def watch(self):
        watch = Watch(three(), 2)
        watch.assign(('good', None, None))
        watch.tell(1, 'bad')
        return watch

    def refused(self, error, action, *given):
        """Check that a call raises an error, and changes neither the watch nor what it was given."""
        watch = self.watch()
        before, written = state_of(watch), repr(given)
        self.raises(error, action, watch, *given)
        self.assertEqual(state_of(watch), before)
        self.assertEqual(repr(given), written)
        with watch.supposing(2):
            before = state_of(watch)
            self.raises(error, action, watch, *given)
            self.assertEqual(state_of(watch), before)
        watch.undo()
        self.same(watch.reports, ('good', None, None))
        watch.undo()
        self.raises(NothingError, watch.undo)

    def test_assign(self):
        for reports in NO_PARTIAL_REPORTS:
            with self.subTest(reports=reports):
                self.refused(ReportsError, Watch.assign, reports)
                self.refused(ReportsError, set_reports, reports)

    def test_tell(self):
        for number in NO_NUMBERS:
            with self.subTest(number=number):
                self.refused(NumberError, Watch.tell, number, 'good')
                for report in NO_REPORT:
                    self.refused(NumberError, Watch.tell, number, report)
        for report in NO_REPORT:
            for number in range(3):
                with self.subTest(number=number, report=report):
                    self.refused(ReportsError, Watch.tell, number, report)

    def test_supposing(self):
        for bad in NO_SUPPOSITIONS:
            with self.subTest(bad=bad):
                self.refused(SetError, Watch.supposing, *bad)
                self.refused(SetError, Watch.count_supposing, *bad)

    def test_the_last_number(self):
        plan = Plan.full(9)
        watch = Watch(plan, 1)
        watch.tell(71, 'bad')
        self.raises(NumberError, watch.tell, 72, 'bad')
        self.raises(SetError, watch.supposing, 9)
        self.same(watch.count_supposing(8), 1)
        self.same(watch.changes, 1)


class SupposingTest(WatchCase):

    def test_in_a_block(self):
        watch = Watch(three(), 3)
        with watch.supposing(1):
            self.same(list(watch.left()), [(1,), (0, 1), (1, 2), (0, 1, 2)])
            self.same(watch.count(), 4)
        self.same(list(watch.left()), ALL)
        with watch.supposing(0, 2):
            self.same(list(watch.left()), [(0, 2), (0, 1, 2)])
        with watch.supposing(2, 0):
            self.same(list(watch.left()), [(0, 2), (0, 1, 2)])
        with watch.supposing(2, 0, 1):
            self.same(list(watch.left()), [(0, 1, 2)])
        self.same(watch.count(), 8)

    def test_without_units(self):
        watch = Watch(three(), 3)
        with watch.supposing():
            self.same(list(watch.left()), ALL)
            with watch.supposing(2):
                with watch.supposing():
                    self.same(watch.count(), 4)
        self.same(watch.count_supposing(), 8)

    def test_nested_blocks(self):
        watch = Watch(three(), 3)
        with watch.supposing(2):
            with watch.supposing(0):
                self.same(list(watch.left()), [(0, 2), (0, 1, 2)])
                with watch.supposing(0, 1):
                    self.same(list(watch.left()), [(0, 1, 2)])
                self.same(list(watch.left()), [(0, 2), (0, 1, 2)])
            self.same(list(watch.left()), [(2,), (0, 2), (1, 2), (0, 1, 2)])
            with watch.supposing(1):
                self.same(list(watch.left()), [(1, 2), (0, 1, 2)])
        self.same(list(watch.left()), ALL)
        with watch.supposing(0), watch.supposing(1):
            self.same(list(watch.left()), [(0, 1), (0, 1, 2)])
        self.same(list(watch.left()), ALL)

    def test_left_by_an_exception(self):
        watch = Watch(three(), 3)
        with self.assertRaises(KeyError) as caught:
            with watch.supposing(2):
                with watch.supposing(1):
                    self.same(watch.count(), 2)
                    raise KeyError('from the block')
        self.assertEqual(caught.exception.args, ('from the block',))
        self.same(list(watch.left()), ALL)
        with watch.supposing(0):
            self.raises(NothingError, watch.undo)
            with self.assertRaises(NumberError):
                with watch.supposing(1):
                    watch.tell(3, 'good')
            self.same(watch.count(), 4)
            with self.assertRaises(SetError):
                with watch.supposing(3):
                    self.fail('the block is never entered')
            self.same(watch.count(), 4)
        self.same(watch.count(), 8)

    def test_left_by_a_return_and_a_break(self):
        watch = Watch(three(), 3)

        def count():
            with watch.supposing(0, 1):
                return watch.count()

        self.same(count(), 2)
        self.same(watch.count(), 8)
        for unit in range(3):
            with watch.supposing(unit):
                if unit == 1:
                    break
        self.same(watch.count(), 8)

    def test_an_object_that_is_never_entered(self):
        watch = Watch(three(), 3)
        never = watch.supposing(0, 1)
        self.holds(watch, three(), 3, (None, None, None), 0)
        with watch.supposing(2):
            again = watch.supposing(0)
            self.same(watch.count(), 4)
        self.holds(watch, three(), 3, (None, None, None), 0)
        self.assertIsNotNone(never)
        self.assertIsNotNone(again)

    def test_an_object_that_is_entered_later(self):
        watch = Watch(three(), 3)
        first, second = watch.supposing(0), watch.supposing(1)
        with second:
            self.same(list(watch.left()), [(1,), (0, 1), (1, 2), (0, 1, 2)])
            with first:
                self.same(list(watch.left()), [(0, 1), (0, 1, 2)])
            self.same(watch.count(), 4)
        self.same(watch.count(), 8)

    def test_blocks_that_are_left_in_another_order(self):
        watch = Watch(three(), 3)

        def block(unit):
            with watch.supposing(unit):
                yield

        first, second = block(0), block(1)
        next(first)
        next(second)
        self.same(list(watch.left()), [(0, 1), (0, 1, 2)])
        self.assertIsNone(next(first, None))
        self.same(list(watch.left()), [(1,), (0, 1), (1, 2), (0, 1, 2)])
        with watch.supposing(2):
            self.same(watch.count(), 2)
        self.assertIsNone(next(second, None))
        self.same(list(watch.left()), ALL)

    def test_changes_in_a_block(self):
        plan, watch = three(), Watch(three(), 2)
        watch.tell(0, 'good')
        with watch.supposing(0):
            watch.tell(1, 'bad')
            self.holds(watch, plan, 2, ('good', 'bad', None), 2, (0,))
            watch.reports = (None, None, 'silent')
            self.holds(watch, plan, 2, (None, None, 'silent'), 3, (0,))
            watch.undo()
            with watch.supposing(1):
                self.holds(watch, plan, 2, ('good', 'bad', None), 2, (0, 1))
                watch.undo()
                watch.undo()
                self.raises(NothingError, watch.undo)
                self.holds(watch, plan, 2, (None, None, None), 0, (0, 1))
                watch.tell(2, 'good')
        self.holds(watch, plan, 2, (None, None, 'good'), 1)

    def test_more_units_than_may_be_bad(self):
        watch = Watch(three(), 1)
        with watch.supposing(0, 1):
            self.same(list(watch.left()), [])
            self.same(watch.count(), 0)
        self.same(watch.count_supposing(0, 1), 0)
        self.same(watch.count_supposing(1), 1)

    def test_all_suppositions(self):
        for plan in some_plans(30, 4, 80):
            random = Random(80)
            watch = Watch(plan, random.randint(0, plan.many))
            most = max(len(bad) for bad in watch.left())
            watch.reports = reports = tuple(random.choice((None, *REPORTS)) for _ in plan.tests)
            for bad in sets_of(plan.many):
                with watch.supposing(*bad[::-1]):
                    self.holds(watch, plan, most, reports, 1, bad)
                self.same(watch.count_supposing(*bad[::-1]), len(expected_left(plan, most, reports, bad)))
            self.holds(watch, plan, most, reports, 1)

    def test_count_supposing(self):
        watch = Watch(three(), 3)
        watch.tell(1, 'bad')
        before = state_of(watch)
        self.same([watch.count_supposing(unit) for unit in range(3)], [3, 4, 4])
        self.same(watch.count_supposing(2, 1), 2)
        self.same(watch.count_supposing(0, 2, 1), 1)
        self.same(watch.count_supposing(), 6)
        self.same(state_of(watch), before)
        with watch.supposing(1):
            self.same(watch.count_supposing(0), 2)
            self.same(watch.count_supposing(1), 4)
            self.same(watch.count_supposing(), 4)
            with watch.supposing(2):
                self.same(watch.count_supposing(0), 1)
            self.same(watch.count(), 4)
        self.same(state_of(watch), before)

    def test_many_blocks(self):
        watch = Watch(three(), 3)
        for _ in range(300):
            with watch.supposing(0):
                with watch.supposing(1):
                    pass
        self.same(watch.count(), 8)
        with watch.supposing(0):
            self.same(watch.count(), 4)
