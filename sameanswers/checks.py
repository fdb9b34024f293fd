"""Checks: they ask a tree by rows as agents do, and end with a verdict."""

from sameanswers.actions import is_question
from sameanswers.agents import are_rows, go_through
from sameanswers.errors import OutOfRange

PASS = ("pass",)
FAIL = ("fail",)


def asks_only(check):
    """Whether the actions of the check are questions."""
    return all([is_question(row[1]) for row in check if row[0] == "ask"])


def check_check(check):
    """Raises OutOfRange if the check is out of its bounds."""
    if not are_rows(check, "ask", (PASS, FAIL)) or not asks_only(check):
        raise OutOfRange("check")


def verdict(check, tree):
    """Whether the check passes on the tree, and the journal of its questions."""
    end, journal, _ = go_through(check, "ask", tree)
    return end == PASS, journal
