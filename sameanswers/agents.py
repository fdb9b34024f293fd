"""Agents, which act by the answers that they get: rows of what to do, and where to go on for each answer."""

from sameanswers.actions import act, check_action
from sameanswers.errors import OutOfRange

ROWS_MOST = 24
CASES_MOST = 6

STOP = ("stop",)
DOUBT = ("write", "doubt", ())


def is_action(action):
    """Whether all items of the action are within their bounds."""
    try:
        check_action(action)
    except OutOfRange:
        return False
    return True


def is_step(rows, at):
    """Whether the row at this index has an action within its bounds, few different cases, and goes on behind itself."""
    _, action, cases, other = rows[at]
    if not is_action(action) or len(cases) > CASES_MOST:
        return False
    if len(set([answer for answer, _ in cases])) < len(cases):
        return False
    nexts = [other] + [behind for _, behind in cases]
    return all([at < k < len(rows) for k in nexts])


def are_rows(rows, word, ends):
    """Whether these are 1 to 24 rows, each an end or a step with this word, and the last one an end."""
    if not 1 <= len(rows) <= ROWS_MOST or rows[-1] not in ends:
        return False
    return all([row in ends or (row[0] == word and is_step(rows, at)) for at, row in enumerate(rows)])


def row_behind(row, answer):
    """The index of the row at which a step goes on after this answer."""
    for told, behind in row[2]:
        if told == answer:
            return behind
    return row[3]


def go_through(rows, word, tree):
    """Does the steps with this word on the tree: the row at which they end, their journal, and the tree they leave."""
    at = 0
    journal = []
    while rows[at][0] == word:
        action = rows[at][1]
        answer, tree = act(tree, action)
        journal.append((action, answer))
        at = row_behind(rows[at], answer)
    return rows[at], tuple(journal), tree


def check_agent(agent):
    """Raises OutOfRange if the agent is out of its bounds."""
    if not are_rows(agent, "act", (STOP,)):
        raise OutOfRange("agent")


def live(agent, tree):
    """The journal of the agent alone on the tree, and the tree that it leaves."""
    _, journal, left = go_through(agent, "act", tree)
    return journal, left


def row_after(agent, journal):
    """The index of the row after the answers of the journal, or None if the agent wants another action somewhere."""
    at = 0
    for action, answer in journal:
        if agent[at] == STOP or agent[at][1] != action:
            return None
        at = row_behind(agent[at], answer)
    return at


def is_of(agent, journal):
    """Whether the journal is one of the agent: it wants just these actions, and then stops."""
    at = row_after(agent, journal)
    return at is not None and agent[at] == STOP


def follower(journal):
    """The agent that has this journal and does nothing else: at any other answer it stops."""
    stop = len(journal)
    rows = [("act", action, ((answer, at + 1),), stop) for at, (action, answer) in enumerate(journal)]
    return (*rows, STOP)


def doubter(journal, at):
    """Like the follower, but at any other answer of the entry at this index it writes a file before it stops."""
    if not 0 <= at < len(journal):
        raise OutOfRange("at")
    doubt = len(journal)
    stop = doubt + 1
    rows = []
    for k, (action, answer) in enumerate(journal):
        # Behind the last entry stands the row of the doubt, which is not for the answer that was told.
        behind = stop if k + 1 == doubt else k + 1
        rows.append(("act", action, ((answer, behind),), doubt if k == at else stop))
    return (*rows, ("act", DOUBT, (), stop), STOP)
