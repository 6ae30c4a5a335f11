"""Plans: which unit tests which."""

from testwatch.checks import are_tests, is_index, is_integer, is_set
from testwatch.choices import choice_of
from testwatch.errors import NumberError, PlanError, SetError, TestsError, TextError, UnitsError
from testwatch.units import Unit, unit_of_kind

DIGITS = "0123456789"


def _plain_units(many):
    if not is_integer(many) or not 1 <= many <= Plan.MOST:
        raise UnitsError("a plan has 1 to 9 units")
    return [Unit() for _ in range(many)]


def _read_test(line):
    # A plan has at most nine units, so that each number is a single digit.
    if len(line) != 3 or line[0] not in DIGITS or line[1] != " " or line[2] not in DIGITS:
        raise TextError("a line with a test has two numbers and a space between them")
    return (int(line[0]), int(line[2]))


class Plan:
    """Units, numbered from 0, and the tests that they make."""

    MOST = 9

    def __init__(self, *units, tests=()):
        if not 1 <= len(units) <= Plan.MOST:
            raise UnitsError("a plan has 1 to 9 units")
        if not all([isinstance(unit, Unit) for unit in units]):
            raise UnitsError("a plan consists of units")
        if not are_tests(tests, len(units)):
            raise TestsError("tests are a tuple of different pairs of different units")
        self._units = units
        self.tests = tests
        # For each unit what it may report if it is bad.
        self.choices = tuple([choice_of(unit.words()) for unit in units])

    @classmethod
    def plain(cls, many, *tests):
        """Return a plan of so many plain units with these tests."""
        units = _plain_units(many)
        return cls(*units, tests=tests)

    @classmethod
    def full(cls, many):
        """Return a plan of so many plain units with all tests."""
        units = _plain_units(many)
        tests = tuple([(one, other) for one in range(many) for other in range(many) if one != other])
        return cls(*units, tests=tests)

    @classmethod
    def read(cls, text):
        """Return the plan that has this text."""
        if not isinstance(text, str):
            raise TextError("the text of a plan is a string")
        lines = text.split("\n")
        if lines[-1] != "":
            raise TextError("each line ends with a line feed")
        units = [unit_of_kind(kind) for kind in lines[0].split(" ")]
        tests = tuple([_read_test(line) for line in lines[1:-1]])
        try:
            return cls(*units, tests=tests)
        except UnitsError:
            raise TextError("the first line has the kinds of 1 to 9 units") from None
        except TestsError:
            raise TextError("the other lines have different tests of the units") from None

    @staticmethod
    def joined(*plans):
        """Return one plan with these plans side by side."""
        if not plans or not all([isinstance(plan, Plan) for plan in plans]):
            raise PlanError("plans are joined, at least one")
        units = []
        pairs = []
        for plan in plans:
            before = len(units)
            pairs.extend([(before + tester, before + tested) for tester, tested in plan.tests])
            units.extend(plan._units)
        tests = tuple(pairs)
        return Plan(*units, tests=tests)

    @property
    def many(self):
        """The number of units."""
        return len(self._units)

    @property
    def kinds(self):
        """The names of the kinds of the units."""
        return tuple([unit.KIND for unit in self._units])

    def allowed(self, number, bad):
        """Return the reports that a test may give if just these units are bad."""
        if not is_index(number, len(self.tests)):
            raise NumberError("this is not the number of a test")
        if not is_set(bad, len(self._units)):
            raise SetError("a set is an ascending tuple of different units")
        tester, tested = self.tests[number]
        verdict = Unit.verdict(tested in bad)
        return self._units[tester].allowed(tester in bad, verdict)

    def text(self):
        """Return the text of the plan."""
        lines = [" ".join(self.kinds)]
        lines.extend([f"{tester} {tested}" for tester, tested in self.tests])
        return "".join([f"{line}\n" for line in lines])
