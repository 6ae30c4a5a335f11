"""What a value must be like to be a number, tests, a set or reports."""

REPORTS = ("bad", "good", "silent")


def is_integer(thing):
    """Tell whether a value is an integer; a bool is none."""
    return isinstance(thing, int) and not isinstance(thing, bool)


def is_index(thing, many):
    """Tell whether a value is an integer from 0 to many - 1."""
    return isinstance(thing, int) and not isinstance(thing, bool) and 0 <= thing < many


def is_test(thing, many):
    """Tell whether a value is a pair of different units out of so many."""
    if not isinstance(thing, tuple) or len(thing) != 2:
        return False
    tester, tested = thing
    return is_index(tester, many) and is_index(tested, many) and tester != tested


def are_tests(thing, many):
    """Tell whether a value is a tuple of different tests of so many units."""
    if not isinstance(thing, tuple) or not all([is_test(test, many) for test in thing]):
        return False
    return len(set(thing)) == len(thing)


def are_units(thing, many):
    """Tell whether a value is a tuple of different units out of so many, in any order."""
    if not isinstance(thing, tuple) or not all([is_index(unit, many) for unit in thing]):
        return False
    return len(set(thing)) == len(thing)


def is_set(thing, many):
    """Tell whether a value is an ascending tuple of different units out of so many."""
    if not isinstance(thing, tuple):
        return False
    least = 0
    for unit in thing:
        if not is_integer(unit) or not least <= unit < many:
            return False
        least = unit + 1
    return True


def is_report(thing):
    """Tell whether a value is one of the three reports."""
    return isinstance(thing, str) and thing in REPORTS


def _is_tuple_of(thing, many, values):
    # Counting compares only, so that anything may stand in the tuple, and is quicker than a loop.
    return isinstance(thing, tuple) and len(thing) == many and sum([thing.count(value) for value in values]) == many


def is_row(thing, many):
    """Tell whether a value is a tuple of so many reports."""
    return _is_tuple_of(thing, many, REPORTS)


def is_partial_row(thing, many):
    """Tell whether a value is a tuple of so many reports, some perhaps None."""
    return _is_tuple_of(thing, many, REPORTS + (None,))
