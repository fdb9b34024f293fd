"""What the tests of trunks share: all that a trunk tells, and calls that must raise and change nothing."""

import unittest

from sameanswers.errors import NoSession, OutOfRange
from sameanswers.trees import Tree
from sameanswers.trunk import Trunk

DONE = ("done",)
FILES = (("a", ("x",)), ("b", ("y",)), ("d/e", ()))
PASS = ("pass",)
FAIL = ("fail",)


def lines(*rows):
    return ("lines", rows)


def passing(question, answer):
    """The check that passes if the question has this answer."""
    return (("ask", question, ((answer, 1),), 2), PASS, FAIL)


def told_of_session(trunk, session):
    return (
        trunk.state(session),
        trunk.name(session),
        trunk.base(session),
        trunk.refusals(session),
        trunk.journal(session),
        trunk.sight(session).files(),
        trunk.place(session),
        trunk.is_protected(session),
        trunk.standing(session) if trunk.state(session) == "open" else None,
    )


def told_of(trunk):
    """All that the trunk tells."""
    sessions = []
    while True:
        try:
            sessions.append(told_of_session(trunk, len(sessions)))
        except NoSession:
            break
    return (
        trunk.version(),
        [trunk.tree(version).files() for version in range(trunk.version() + 1)],
        [trunk.entry(version) for version in range(1, trunk.version() + 1)],
        sessions,
        trunk.line(),
        [(name, trunk.verdicts(name)) for name in trunk.checks()],
        trunk.runs(),
    )


class TrunkCase(unittest.TestCase):
    def trunk(self, patience=2, allowance=3, files=FILES):
        return Trunk(Tree(files), patience, allowance)

    def check_raises(self, trunk, error, call, *told):
        """The call raises this error, or OutOfRange with this name, and the trunk tells the same afterwards."""
        before = told_of(trunk)
        with self.assertRaises(OutOfRange if isinstance(error, str) else error) as held:
            call(*told)
        if isinstance(error, str):
            self.assertEqual(held.exception.name, error)
        self.assertEqual(told_of(trunk), before)

    def begun(self, trunk, name, *actions):
        """A new session that has done these actions."""
        session = trunk.begin(name)
        self.do(trunk, session, *actions)
        return session

    def do(self, trunk, session, *actions):
        for action in actions:
            trunk.act(session, len(trunk.journal(session)), action)

    def submit(self, trunk, session):
        return trunk.submit(session, len(trunk.journal(session)))

    def accept(self, trunk, *actions):
        """Makes a version by a new session with these actions."""
        session = self.begun(trunk, "other", *actions)
        self.assertEqual(self.submit(trunk, session), ("accepted", trunk.version()))
        return session

    def write(self, trunk, path, *rows):
        """Makes a version in which the file has these lines."""
        return self.accept(trunk, ("write", path, rows))
