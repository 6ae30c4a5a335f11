"""Partners: the sets that no test of a plan tells apart from a given one."""

from testwatch.choices import BAD, GOOD


class Partners:
    """The partners of each set, in families of the plan."""

    def __init__(self, plan, families):
        self._if_bad = [families.everything for _ in plan.choices]
        self._if_good = [[] for _ in plan.choices]
        for test in plan.tests:
            tester, tested = test
            # A bad unit may say the same whatever it tests, so that its tests count as one.
            self._if_bad[tester] &= families.allowing(test, plan.choices[tester])
            line = (tested, families.allowing(test, BAD), families.allowing(test, GOOD))
            self._if_good[tester].append(line)

    def among(self, family, bad):
        """Return the partners of a set that are in a family."""
        for unit, lines in enumerate(self._if_good):
            if unit in bad:
                family &= self._if_bad[unit]
            elif family:
                for tested, said_bad, said_good in lines:
                    family &= said_bad if tested in bad else said_good
        return family
