"""What a value must be like to be a number, tests or a set."""


def is_integer(thing):
    """Tell whether a value is an integer; a bool is none."""
    return isinstance(thing, int) and not isinstance(thing, bool)


def is_index(thing, many):
    """Tell whether a value is an integer from 0 to many - 1."""
    return is_integer(thing) and 0 <= thing < many


def is_test(thing, many):
    """Tell whether a value is a pair of different units out of so many."""
    if not isinstance(thing, tuple) or len(thing) != 2:
        return False
    tester, tested = thing
    return is_index(tester, many) and is_index(tested, many) and tester != tested


def are_tests(thing, many):
    """Tell whether a value is a tuple of different tests of so many units."""
    if not isinstance(thing, tuple) or not all([is_test(test, many) for test in thing]):
        return False
    return len(set(thing)) == len(thing)


def is_set(thing, many):
    """Tell whether a value is an ascending tuple of different units out of so many."""
    if not isinstance(thing, tuple) or not all([is_index(unit, many) for unit in thing]):
        return False
    return list(thing) == sorted(set(thing))
