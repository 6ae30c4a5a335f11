"""Units: what a unit may report about another one.

Every class has words and allowed in its own body, because the interface
lists them for each class; what they do comes from the classes above.
"""

from testwatch.errors import VerdictError


def _without(words, barred):
    """Return the words other than the barred one."""
    return tuple([word for word in words if word != barred])


class Unit:
    """A plain unit: if it is bad, it says bad or good, true or not."""

    KIND = "plain"

    def words(self):
        """Return the reports that the unit may give if it is bad."""
        return ("bad", "good")

    def allowed(self, is_bad, verdict):
        """Return the reports that may be given where the verdict is true."""
        if not isinstance(is_bad, bool):
            raise VerdictError("is_bad is True or False")
        if verdict not in ("bad", "good"):
            raise VerdictError("a verdict is good or bad")
        if is_bad:
            return self.words()
        return (verdict,)

    @staticmethod
    def verdict(is_bad):
        """Return the true verdict about a unit."""
        if not isinstance(is_bad, bool):
            raise VerdictError("is_bad is True or False")
        return "bad" if is_bad else "good"


class Quiet(Unit):
    """A unit that may also stay silent."""

    KIND = "quiet"

    def words(self):
        # In ascending order silent stands behind bad and good.
        return super().words() + ("silent",)

    def allowed(self, is_bad, verdict):
        return super().allowed(is_bad, verdict)


class Mild(Unit):
    """A unit that never says bad if it is bad itself."""

    KIND = "mild"

    def words(self):
        return _without(super().words(), "bad")

    def allowed(self, is_bad, verdict):
        return super().allowed(is_bad, verdict)


class Harsh(Unit):
    """A unit that never says good if it is bad itself."""

    KIND = "harsh"

    def words(self):
        return _without(super().words(), "good")

    def allowed(self, is_bad, verdict):
        return super().allowed(is_bad, verdict)


class QuietMild(Quiet, Mild):
    """A unit that says good or stays silent if it is bad."""

    KIND = "quietmild"

    def words(self):
        return super().words()

    def allowed(self, is_bad, verdict):
        return super().allowed(is_bad, verdict)


class QuietHarsh(Quiet, Harsh):
    """A unit that says bad or stays silent if it is bad."""

    KIND = "quietharsh"

    def words(self):
        return super().words()

    def allowed(self, is_bad, verdict):
        return super().allowed(is_bad, verdict)


class Mute(Quiet, Mild, Harsh):
    """A unit that stays silent if it is bad."""

    KIND = "mute"

    def words(self):
        return super().words()

    def allowed(self, is_bad, verdict):
        return super().allowed(is_bad, verdict)


class Sure(Mild, Harsh):
    """A unit that can give no report at all if it is bad."""

    KIND = "sure"

    def words(self):
        return super().words()

    def allowed(self, is_bad, verdict):
        return super().allowed(is_bad, verdict)


def unit_of_kind(kind):
    """Return a new unit of the kind with this name, or None."""
    for unit in (Unit(), Quiet(), Mild(), Harsh(), QuietMild(), QuietHarsh(), Mute(), Sure()):
        if unit.KIND == kind:
            return unit
    return None
