"""Design: which tests a plan can do without, and which it should have."""

from itertools import combinations

from testwatch.arguments import check_most, check_new_test, check_plan
from testwatch.checks import REPORTS
from testwatch.errors import LimitError, WeakError
from testwatch.marks import all_bits, bits_in_common, marks_of
from testwatch.reports import explanations
from testwatch.sets import sets_up_to
from testwatch.tables import allowed_in, table_of

# The greatest plan to which tests are added by trying all choices.
MOST_UNITS = 4


def _apart_bits(plan, tests, most):
    """Return as keys, for every two sets, the bits of the tests that tell them apart."""
    marks = marks_of(plan, tests, sets_up_to(plan.many, most))
    every = all_bits(len(tests))
    bits = {}
    for at, one in enumerate(marks):
        for later in range(at + 1, len(marks)):
            bits[every ^ bits_in_common(one, marks[later])] = True
    return bits


def _bits_if_found(plan, most):
    """Return what _apart_bits does for a plan that must find most."""
    check_plan(plan)
    check_most(plan, most)
    bits = _apart_bits(plan, plan.tests, most)
    if 0 in bits:
        raise WeakError("the plan does not find so many bad units")
    return bits


def needless(plan, most):
    """Return the numbers of the tests that can, each alone, be left out."""
    bits = _bits_if_found(plan, most)
    # A test is needed where it alone tells two sets apart.
    return tuple([number for number in range(len(plan.tests)) if 1 << number not in bits])


def lean(plan, most):
    """Return the tests that are kept if, from the last one on, needless ones are left out."""
    bits = _bits_if_found(plan, most)
    kept = []
    for number in reversed(range(len(plan.tests))):
        bit = 1 << number
        if bit in bits:
            kept.append(plan.tests[number])
            # What a test that is kept tells apart asks nothing of earlier ones.
            bits = {apart: True for apart in bits if apart & bit == 0}
        else:
            bits = {apart & ~bit: True for apart in bits}
    return tuple(kept[::-1])


def _missing(plan):
    """Return the tests that are not in the plan, in order."""
    units = range(plan.many)
    pairs = [(tester, tested) for tester in units for tested in units if tester != tested]
    return [pair for pair in pairs if pair not in plan.tests]


def _bits_to_meet(plan, missing, most):
    """Return, for every two sets that the plan confuses, the bits of missing tests that tell them apart."""
    old = len(plan.tests)
    bits = _apart_bits(plan, plan.tests + tuple(missing), most)
    return [apart >> old for apart in bits if apart & all_bits(old) == 0]


def more(plan, most):
    """Return the fewest tests with which the plan finds most, or None."""
    check_plan(plan)
    check_most(plan, most)
    if plan.many > MOST_UNITS:
        raise LimitError(plan.many, MOST_UNITS)
    missing = _missing(plan)
    needed = _bits_to_meet(plan, missing, most)
    bit_of = {test: 1 << number for number, test in enumerate(missing)}
    for size in range(len(missing) + 1):
        for added in combinations(missing, size):
            chosen = sum([bit_of[test] for test in added])
            if all([apart & chosen for apart in needed]):
                return added
    return None


def _most_left(plan, sets, test):
    """Return how many of the sets can be left by a report of a new test."""
    line = table_of(plan, (test,))[0]
    allowed = [allowed_in(line, bad) for bad in sets]
    return max([len([words for words in allowed if report in words]) for report in REPORTS])


def worst(plan, reports, most, test):
    """Return the greatest number of explanations that can be left by a new test."""
    sets = list(explanations(plan, reports, most))
    check_new_test(plan, test)
    return _most_left(plan, sets, test)


def next_test(plan, reports, most):
    """Return (number, test) with the first test whose worst number is the least, or None."""
    sets = list(explanations(plan, reports, most))
    choices = [(_most_left(plan, sets, test), test) for test in _missing(plan)]
    return min(choices, default=None)
