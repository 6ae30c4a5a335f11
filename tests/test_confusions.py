"""[30] and [31]: how much a plan finds."""

from itertools import chain, combinations, permutations, product

from testwatch.confusions import common, confusion, finds, is_confusion, strength, told_apart
from testwatch.plans import Plan
from testwatch.reports import explanations
from testwatch.units import Mute, Quiet, Sure, Unit
from tests.helpers import (
    KINDS, REPORTS, Case, expected_confusion, expected_explains, sets_of, some_plans, units_of, with_tests,
)
from tests.wrong import NO_REPORTS, NO_SETS, TESTS, three


def plain_plans(many):
    """All plans of so many plain units, by their tests in ascending order."""
    pairs = list(permutations(range(many), 2))
    choices = chain.from_iterable(combinations(pairs, size) for size in range(len(pairs) + 1))
    return [Plan.plain(many, *tests) for tests in choices]


class FindsTest(Case):

    def test_the_session(self):
        self.same(strength(three()), 1)
        self.same(confusion(three(), 2), ((0,), (0, 1), ('bad', 'good', 'bad')))
        self.same([finds(three(), most) for most in range(4)], [True, True, False, False])
        self.same([confusion(three(), most) for most in range(2)], [None, None])

    def test_each_plan_finds_none(self):
        for plan in some_plans(30, 9, 20):
            self.same(finds(plan, 0), True)
            self.same(confusion(plan, 0), None)

    def test_without_tests(self):
        for many in range(1, 10):
            for kind in ('plain', 'sure'):
                plan = Plan(*units_of(*[kind] * many))
                for most in range(1, many + 1):
                    self.same(finds(plan, most), False)
                    self.same(confusion(plan, most), ((), (0,), ()))
                self.same(strength(plan), 0)

    def test_against_all_pairs(self):
        for plan in some_plans(120, 4, 21):
            found = []
            for most in range(plan.many + 1):
                expected = expected_confusion(plan, most)
                self.same(confusion(plan, most), expected)
                self.same(finds(plan, most), expected is None)
                found.append(expected is None)
            self.same(strength(plan), max(most for most, held in enumerate(found) if held))

    def test_five_units(self):
        for plan in some_plans(12, 5, 22):
            for most in range(plan.many + 1):
                self.same(confusion(plan, most), expected_confusion(plan, most))

    def test_at_most_one_set_explains_what_is_found(self):
        for plan in some_plans(30, 3, 23):
            most = strength(plan)
            for reports in product(REPORTS, repeat=len(plan.tests)):
                self.assertLessEqual(len(list(explanations(plan, reports, most))), 1)

    def test_the_first_two_sets(self):
        # Nobody tests unit 0.
        plan = Plan.plain(3, (1, 2), (2, 1))
        self.same(confusion(plan, 1), ((), (0,), ('good', 'good')))
        plan = Plan.plain(3, (0, 1), (1, 0), (0, 2), (1, 2))
        self.same(confusion(plan, 1), ((0,), (1,), ('bad', 'bad', 'good', 'good')))
        plan = Plan.full(4)
        self.same(confusion(plan, 2)[:2], ((0, 1), (2, 3)))
        self.same(confusion(plan, 3)[:2], ((0,), (1, 2, 3)))
        self.same(confusion(plan, 4)[:2], ((), (0, 1, 2, 3)))

    def test_a_set_that_cannot_be(self):
        plan = Plan(Sure(), Sure(), tests=((0, 1), (1, 0)))
        self.same([finds(plan, most) for most in range(3)], [True, True, True])
        self.same(strength(plan), 2)
        self.same(confusion(plan, 2), None)

    def test_all_units(self):
        self.same(strength(Plan(Mute(), Mute(), tests=((0, 1), (1, 0)))), 2)
        ring = tuple((unit, (unit + 1) % 9) for unit in range(9))
        plan = Plan(*[Mute()] * 9, tests=ring)
        self.same(strength(plan), 9)
        self.same(confusion(plan, 9), None)
        self.same(finds(plan, 9), True)

    def test_nine_units_with_all_tests(self):
        plan = Plan.full(9)
        self.same([finds(plan, most) for most in range(10)], [True] * 5 + [False] * 5)
        one, other, reports = confusion(plan, 5)
        self.same((one, other), ((0, 1, 2, 3), (4, 5, 6, 7, 8)))
        self.same(reports, common(plan, one, other))
        self.same(confusion(plan, 9)[:2], ((), tuple(range(9))))
        mixed = with_tests(Plan(*units_of(*KINDS, 'quiet')), plan.tests[::-1])
        most = strength(mixed)
        self.same((finds(mixed, most), most == 9 or finds(mixed, most + 1)), (True, most == 9))

    def test_confusions_are_confusions(self):
        for plan in some_plans(40, 6, 24):
            most = strength(plan) + 1
            if most <= plan.many:
                one, other, reports = found = confusion(plan, most)
                self.same(told_apart(plan, one, other), None)
                self.same(common(plan, one, other), reports)
                self.same(is_confusion(plan, most, found), True)
                self.same(is_confusion(plan, most - 1, found), False)

    def test_again(self):
        for plan in some_plans(10, 5, 25):
            self.same(strength(plan), strength(plan))
            for most in range(plan.many + 1):
                self.same(confusion(plan, most), confusion(plan, most))
                self.same(finds(plan, most), finds(plan, most))


class AllPairsTest(Case):
    """finds, confusion and strength, compared with told_apart and common asked for all pairs of sets."""

    def first_pair(self, plan, most):
        for one, other in combinations(sets_of(plan.many, most), 2):
            if told_apart(plan, one, other) is None:
                return one, other, common(plan, one, other)
        return None

    def check(self, plan, greatest):
        """Check all that is told of a plan for most up to a greatest one."""
        found = []
        for most in range(greatest + 1):
            pair = self.first_pair(plan, most)
            self.same(confusion(plan, most), pair)
            self.same(finds(plan, most), pair is None)
            if pair is None:
                found.append(most)
        self.assertEqual(found, list(range(len(found))))
        if len(found) <= greatest or greatest == plan.many:
            self.same(strength(plan), found[-1])
        else:
            self.assertGreaterEqual(strength(plan), greatest)

    def test_one_and_two_units_of_all_kinds(self):
        for kind in KINDS:
            self.check(Plan(*units_of(kind)), 1)
        for kinds in product(KINDS, repeat=2):
            for tests in ((), ((0, 1),), ((1, 0),), ((1, 0), (0, 1))):
                self.check(Plan(*units_of(*kinds), tests=tests), 2)

    def test_three_and_four_units_of_all_kinds(self):
        for many in (3, 4):
            ring = tuple((unit, (unit + 1) % many) for unit in range(many))
            for kinds in [[kind] * many for kind in KINDS] + [KINDS[:many], KINDS[2:][:many], KINDS[-many:]]:
                for tests in (Plan.full(many).tests, Plan.full(many).tests[::-2], ring, ring[1:], ()):
                    self.check(Plan(*units_of(*kinds), tests=tests), many)
        for plan in some_plans(150, 4, 26):
            self.check(plan, plan.many)

    def test_nine_units(self):
        full, order = Plan.full(9).tests, [5, 0, 7, 3, 8, 1, 4, 6, 2]
        near = tuple((unit, order[(at + by) % 9]) for at, unit in enumerate(order) for by in (1, 2))
        for kinds in [[kind] * 9 for kind in KINDS] + [KINDS + ('plain',), ('mild',) + KINDS[::-1]]:
            for tests in (full, near, near[:-1], near[::2], full[:20:-1]):
                self.check(Plan(*units_of(*kinds), tests=tests), 2)

    def test_six_units_and_any_most(self):
        for plan in some_plans(12, 6, 27):
            self.check(plan, plan.many)


class IsConfusionTest(Case):

    def judged(self, plan, most, thing, expected):
        before = repr(thing)
        for _ in range(2):
            self.same(is_confusion(plan, most, thing), expected)
            self.assertEqual(repr(thing), before)

    def test_confusions(self):
        reports = ('bad', 'good', 'bad')
        self.judged(three(), 2, ((0,), (0, 1), reports), True)
        self.judged(three(), 2, ((0, 1), (0,), reports), True)
        self.judged(three(), 3, ((0,), (0, 1), reports), True)
        self.judged(three(), 1, ((0,), (0, 1), reports), False)
        self.judged(three(), 1, ((0, 1), (0,), reports), False)
        self.judged(three(), 0, ((0,), (0, 1), reports), False)
        self.judged(three(), 2, ((0,), (0,), reports), False)
        self.judged(Plan(Unit()), 1, ((), (0,), ()), True)
        self.judged(Plan(Unit()), 0, ((), (0,), ()), False)

    def test_all_sets_and_reports(self):
        plans = some_plans(20, 3, 26) + [three(), Plan(Quiet(), Sure(), Mute(), tests=TESTS)]
        for plan in plans:
            if len(plan.tests) > 3:
                plan = with_tests(plan, plan.tests[:3])
            for most in range(plan.many + 1):
                for one, other in product(sets_of(plan.many), repeat=2):
                    for reports in product(REPORTS, repeat=len(plan.tests)):
                        expected = (one != other and max(len(one), len(other)) <= most
                                    and expected_explains(plan, reports, one)
                                    and expected_explains(plan, reports, other))
                        self.assertIs(is_confusion(plan, most, (one, other, reports)), expected)

    def test_other_values(self):
        reports = ('bad', 'good', 'bad')
        good = ((0,), (0, 1), reports)
        for thing in (None, True, False, 0, 1, '', 'bad', (), [], {}, list(good), good[:2], good[1:], (*good, ()),
                      (*good, reports), (good,), [good], ((0,), [0, 1], reports), ([0], (0, 1), reports),
                      ((0,), (0, 1), list(reports)), {0: good}, {'one': (0,), 'other': (0, 1)}, (good, good, good),
                      (reports, (0,), (0, 1)), ((0,), reports, (0, 1)), (None, None, None), ((), (), ()),
                      ([], {}, [[[[[[[]]]]]]]), 'one', ('a', 'b', 'c'), (0, 1, reports), ((0,), None, reports)):
            for most in range(4):
                with self.subTest(thing=thing, most=most):
                    self.judged(three(), most, thing, False)

    def test_wrong_parts(self):
        reports = ('bad', 'good', 'bad')
        for bad in NO_SETS:
            self.judged(three(), 3, (bad, (0,), reports), False)
            self.judged(three(), 3, ((0,), bad, reports), False)
            self.judged(three(), 3, (bad, (0, 1), reports), False)
            self.judged(three(), 3, (bad, bad, reports), False)
        for thing in NO_REPORTS:
            self.judged(three(), 3, ((0,), (0, 1), thing), False)

    def test_bools_in_the_place_of_integers(self):
        plan = Plan.plain(2, (0, 1))
        self.judged(plan, 2, ((0,), (0, 1), ('bad',)), True)
        for thing in (((False,), (0, 1), ('bad',)), ((0,), (0, True), ('bad',)), ((0,), (False, True), ('bad',)),
                      ((False,), (0,), ('bad',)), ((0,), (False,), ('bad',))):
            self.judged(plan, 2, thing, False)

    def test_returned_values_with_parts_changed(self):
        plan = Plan.full(4)
        one, other, reports = confusion(plan, 2)
        self.judged(plan, 2, (one, other, reports), True)
        self.judged(plan, 2, (other, one, reports), True)
        self.judged(plan, 2, (one[::-1], other, reports), False)
        self.judged(plan, 2, (one + one, other, reports), False)
        self.judged(plan, 2, (one[:1], other, reports), False)
        self.judged(plan, 2, (one, other, reports[:-1]), False)
        self.judged(plan, 2, (one, other, reports + ('bad',)), False)
        self.judged(plan, 2, (one, other, ('silent',) + reports[1:]), False)
        self.judged(plan, 2, (one, other, reports, one), False)


class StrengthTest(Case):

    def test_full_plans_of_plain_units(self):
        for many in range(1, 10):
            self.same(strength(Plan.full(many)), (many - 1) // 2)

    def test_no_plan_of_plain_units_is_stronger(self):
        for many in range(1, 5):
            for plan in plain_plans(many):
                found = strength(plan)
                self.assertLessEqual(found, (many - 1) // 2)
                self.check_testers(plan, found)

    def test_greater_plans_of_plain_units(self):
        for plan in some_plans(40, 8, 30, kinds=('plain',)):
            found = strength(plan)
            self.assertLessEqual(found, (plan.many - 1) // 2)
            self.check_testers(plan, found)
        for many in (5, 7, 9):
            # Each unit is tested by the two units before it, which is enough for two.
            tests = [((unit - by) % many, unit) for unit in range(many) for by in (1, 2)]
            self.same(strength(Plan.plain(many, *tests)), 2)
            self.same(strength(Plan.plain(many, *tests[1:])), 1)

    def check_testers(self, plan, found):
        for unit in range(plan.many):
            testers = [tester for tester, tested in plan.tests if tested == unit]
            self.assertGreaterEqual(len(testers), found)

    def test_plans_side_by_side(self):
        plans = some_plans(24, 4, 31) + [three(), Plan.full(4), Plan(Mute(), Mute(), tests=((0, 1), (1, 0))),
                                         Plan(Sure(), Sure(), tests=((0, 1), (1, 0))), Plan(Unit()), Plan(Sure())]
        for one, other in product(plans, repeat=2):
            self.check_joined(one, other)

    def test_three_plans_side_by_side(self):
        ring = Plan(Mute(), Mute(), tests=((0, 1), (1, 0)))
        for plans in permutations((ring, three(), Plan.plain(2, (0, 1)), Plan(Sure(), Mute(), tests=((1, 0), (0, 1))),
                                   Plan(*[Mute()] * 3, tests=((0, 1), (1, 2), (2, 0)))), 3):
            self.check_joined(*plans)

    def check_joined(self, *plans):
        joined = Plan.joined(*plans)
        for most in range(joined.many + 1):
            expected = all(finds(plan, min(most, plan.many)) for plan in plans)
            self.assertIs(finds(joined, most), expected)
