"""The checks that a trunk requires, and the verdicts that are kept of each of them."""

from sameanswers.checks import check_check, verdict
from sameanswers.errors import NoCheck, OutOfRange, TooManyChecks
from sameanswers.journals import holds
from sameanswers.paths import is_name


class Gate:
    """Required checks by their names: a kept verdict that is sure for a tree saves a run."""

    def __init__(self, checks_most, verdicts_most):
        self._checks_most = checks_most
        self._verdicts_most = verdicts_most
        self._checks = {}
        self._kept = {}
        self._runs = 0

    def require(self, name, check):
        """Requires the check from now on, in place of one of this name."""
        if not is_name(name):
            raise OutOfRange("name")
        check_check(check)
        if name not in self._checks and len(self._checks) >= self._checks_most:
            raise TooManyChecks("as many checks are required as may be")
        self._checks[name] = check
        self._kept[name] = []

    def confirm(self, name):
        """Raises NoCheck if no check of this name is required."""
        if name not in self._checks:
            raise NoCheck(f"no check is called {name}")

    def drop(self, name):
        """Requires the check of this name no longer."""
        self.confirm(name)
        del self._checks[name]
        del self._kept[name]

    def names(self):
        """The rising list of the names of the required checks."""
        return sorted(self._checks)

    def verdicts(self, name):
        """The list of the kept verdicts of a check, the newest one first."""
        self.confirm(name)
        return list(self._kept[name])

    def runs(self):
        """How many runs of checks there were."""
        return self._runs

    def look(self, name, tree):
        """Whether the check of this name passes on the tree: by a kept verdict that is sure, otherwise by a run."""
        for passed, journal in self._kept[name]:
            if holds(journal, tree):
                return passed
        told = verdict(self._checks[name], tree)
        self._runs += 1
        self._kept[name] = [told, *self._kept[name]][: self._verdicts_most]
        return told[0]

    def failing(self, tree):
        """The rising tuple of the names of the checks that do not pass on the tree; all of them are looked at."""
        return tuple([name for name in self.names() if not self.look(name, tree)])
