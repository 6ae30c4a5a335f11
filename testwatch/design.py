"""Design: which tests a plan can do without, and which it should have."""

from itertools import combinations

from testwatch.arguments import check_most, check_new_test, check_plan
from testwatch.errors import LimitError, WeakError
from testwatch.marks import all_bits, apart_bits
from testwatch.reports import all_explaining

# The greatest plan to which tests are added by trying all choices.
MOST_UNITS = 4


def _bits_if_found(plan, most):
    """Return what apart_bits does for a plan that must find most."""
    check_plan(plan)
    check_most(plan, most)
    bits = apart_bits(plan, plan.tests, most)
    if 0 in bits:
        raise WeakError("the plan does not find so many bad units")
    return bits


def needless(plan, most):
    """Return the numbers of the tests that can, each alone, be left out."""
    bits = _bits_if_found(plan, most)
    # A test is needed where it alone tells two sets apart.
    return tuple([number for number in range(len(plan.tests)) if 1 << number not in bits])


def lean(plan, most):
    """Return the tests that are kept if, from the last one on, needless ones are left out."""
    bits = _bits_if_found(plan, most)
    kept = []
    for number in reversed(range(len(plan.tests))):
        bit = 1 << number
        if bit in bits:
            kept.append(plan.tests[number])
            # What a test that is kept tells apart asks nothing of earlier ones.
            bits = {apart: True for apart in bits if apart & bit == 0}
        else:
            bits = {apart & ~bit: True for apart in bits}
    return tuple(kept[::-1])


def _missing(plan):
    """Return the tests that are not in the plan, in order."""
    units = range(plan.many)
    pairs = [(tester, tested) for tester in units for tested in units if tester != tested]
    return [pair for pair in pairs if pair not in plan.tests]


def _bits_to_meet(plan, missing, most):
    """Return, for every two sets that the plan confuses, the bits of missing tests that tell them apart."""
    old = len(plan.tests)
    bits = apart_bits(plan, plan.tests + tuple(missing), most)
    return [apart >> old for apart in bits if apart & all_bits(old) == 0]


def more(plan, most):
    """Return the fewest tests with which the plan finds most, or None."""
    check_plan(plan)
    check_most(plan, most)
    if plan.many > MOST_UNITS:
        raise LimitError(plan.many, MOST_UNITS)
    missing = _missing(plan)
    needed = _bits_to_meet(plan, missing, most)
    bit_of = {test: 1 << number for number, test in enumerate(missing)}
    for size in range(len(missing) + 1):
        for added in combinations(missing, size):
            chosen = sum([bit_of[test] for test in added])
            if all([apart & chosen for apart in needed]):
                return added
    return None


def worst(plan, reports, most, test):
    """Return the greatest number of explanations that can be left by a new test."""
    families, family = all_explaining(plan, reports, most)
    check_new_test(plan, test)
    return families.most_left(family, test)


def next_test(plan, reports, most):
    """Return (number, test) with the first test whose worst number is the least, or None."""
    families, family = all_explaining(plan, reports, most)
    return min([(families.most_left(family, test), test) for test in _missing(plan)], default=None)
