"""The trunk: the versions of a tree, and the sessions whose changes make the next ones."""

from sameanswers.actions import check_action
from sameanswers.errors import JournalFull, NoSession, OutOfRange, TooManySessions, TooManyVersions, WrongPosition
from sameanswers.gate import Gate
from sameanswers.inverses import inverse
from sameanswers.journals import first_change, holds, lead, run
from sameanswers.line import Line
from sameanswers.paths import is_name
from sameanswers.sessions import ACCEPTED, CLOSED, OPEN, Session

SESSIONS_MOST = 6
VERSIONS_MOST = 200
JOURNAL_MOST = 40
CHECKS_MOST = 4
VERDICTS_MOST = 5
PATIENCE_MOST = 9


def check_name(name):
    """Raises OutOfRange if the text is no name."""
    if not is_name(name):
        raise OutOfRange("name")


class Trunk:
    """Versions from 0 on, the sessions that were begun on them, and the checks that an acceptance requires."""

    def __init__(self, tree, patience, allowance):
        if not 1 <= patience <= PATIENCE_MOST:
            raise OutOfRange("patience")
        if not 1 <= allowance <= PATIENCE_MOST:
            raise OutOfRange("allowance")
        self._trees = [tree]
        self._entries = []
        self._sessions = []
        self._line = Line(patience, allowance)
        self._gate = Gate(CHECKS_MOST, VERDICTS_MOST)

    def version(self):
        """The newest version."""
        return len(self._entries)

    def tree(self, version):
        """The tree of a version."""
        if not 0 <= version <= self.version():
            raise OutOfRange("version")
        return self._trees[version]

    def entry(self, version):
        """The name and the journal that led to a version."""
        if not 1 <= version <= self.version():
            raise OutOfRange("version")
        return self._entries[version - 1]

    def append(self, name, actions):
        """Makes a version by the actions on the newest one, without a session, and returns its number."""
        check_name(name)
        for action in actions:
            check_action(action)
        self._check_versions()
        journal, tree = run(self._trees[-1], actions)
        self._add_version(name, journal, tree)
        # Nobody has looked whether the journal of a protected session holds on this version.
        self._line.unprotect()
        self._pass_line(None)
        return self.version()

    def begin(self, name):
        """Opens a session on the newest version, and returns its number."""
        check_name(name)
        return self._begin_on(name, self.version())

    def take_back(self, version, name):
        """Opens a session on a version, which has done the inverse of what led to it; returns its number."""
        _, journal = self.entry(version)
        check_name(name)
        actions = inverse(journal, self._trees[version - 1])
        if len(actions) > JOURNAL_MOST:
            raise JournalFull("the inverse has too many actions")
        session = self._begin_on(name, version)
        self._sessions[session].do(actions)
        return session

    def close(self, session):
        """Ends an open session without a version."""
        mine = self._open_one(session)
        mine.state = CLOSED
        self._line.leave(session)

    def act(self, session, position, action):
        """Applies the action to the tree that the session sees; its answer."""
        mine = self._open_one(session)
        check_action(action)
        self._check_position(mine, position)
        if position >= JOURNAL_MOST:
            raise JournalFull("the journal is full")
        mine.do((action,))
        _, answer = mine.journal[-1]
        return answer

    def standing(self, session):
        """None if the journal holds on the newest version, else its first change, the answer, and since when."""
        journal = self._open_one(session).journal
        change = first_change(journal, self._trees[-1])
        if change is None:
            return None
        at, answer = change
        since = self.version()
        # The journal holds on its base, so the search ends there at the latest.
        while not holds(journal[: at + 1], self._trees[since - 1]):
            since -= 1
        return at, answer, since

    def submit(self, session, position):
        """Makes the changes of the session the next version, unless it is refused, has to wait, or fails."""
        mine = self._open_one(session)
        self._check_position(mine, position)
        self._check_versions()
        change = self.standing(session)
        if change is not None:
            mine.refuse(change[0], self.version(), self._trees[-1])
            self._line.refuse(session, mine.refusals)
            return ("refused", *change)
        candidate = lead(mine.journal, self._trees[-1])
        if self._is_in_the_way(session, candidate):
            self._count_event()
            return ("waiting",)
        names = self._gate.failing(candidate)
        if len(names) > 0:
            return ("failed", names)
        mine.state = ACCEPTED
        self._add_version(mine.name, mine.journal, candidate)
        self._pass_line(session)
        return ("accepted", self.version())

    def state(self, session):
        """Whether the session is open, accepted or closed."""
        return self._known_one(session).state

    def name(self, session):
        """The name of the session."""
        return self._known_one(session).name

    def base(self, session):
        """The version on which the session stands."""
        return self._known_one(session).base

    def refusals(self, session):
        """How often the session was refused."""
        return self._known_one(session).refusals

    def journal(self, session):
        """The journal of the session."""
        return self._known_one(session).journal

    def sight(self, session):
        """The tree that the session sees."""
        return self._known_one(session).sight

    def place(self, session):
        """The index of the session in the line, or None."""
        self._known_one(session)
        return self._line.place(session)

    def is_protected(self, session):
        """Whether no other session can change an answer that this one has got."""
        self._known_one(session)
        return self._line.protected() == session

    def line(self):
        """The list of the sessions in the line."""
        return self._line.sessions()

    def require(self, name, check):
        """Requires that the check passes on whatever is accepted, in place of a check of this name."""
        self._gate.require(name, check)

    def drop(self, name):
        """Requires the check of this name no longer."""
        self._gate.drop(name)

    def checks(self):
        """The rising list of the names of the required checks."""
        return self._gate.names()

    def verdicts(self, name):
        """The list of the kept verdicts of a check, the newest one first."""
        return self._gate.verdicts(name)

    def runs(self):
        """How many runs of checks there were."""
        return self._gate.runs()

    def _known_one(self, session):
        if not 0 <= session < len(self._sessions):
            raise NoSession(f"no session has the number {session}")
        return self._sessions[session]

    def _open_one(self, session):
        mine = self._known_one(session)
        if mine.state != OPEN:
            raise NoSession(f"session {session} is not open")
        return mine

    def _begin_on(self, name, base):
        if len([mine for mine in self._sessions if mine.state == OPEN]) >= SESSIONS_MOST:
            raise TooManySessions("as many sessions are open as may be")
        self._sessions.append(Session(name, base, self._trees[base]))
        return len(self._sessions) - 1

    def _check_position(self, mine, position):
        if position != len(mine.journal):
            raise WrongPosition(f"the journal has {len(mine.journal)} entries")

    def _check_versions(self):
        if self.version() >= VERSIONS_MOST:
            raise TooManyVersions("there are as many versions as may be")

    def _add_version(self, name, journal, tree):
        self._entries.append((name, journal))
        self._trees.append(tree)

    def _is_in_the_way(self, session, candidate):
        """Whether the candidate would change an answer that another session, which is protected, has got."""
        guarded = self._line.protected()
        if guarded is None or guarded == session:
            return False
        return not holds(self._sessions[guarded].journal, candidate)

    def _count_event(self):
        """Counts an event for the first session in the line, which begins anew if it leaves the line therefore."""
        session = self._line.count_event()
        if session is not None:
            mine = self._sessions[session]
            mine.refusals = 0

    def _pass_line(self, session):
        """What the newest version, which was made by this session or by none, means for the line."""
        first = self._line.first()
        if first is not None and first != session:
            if self._line.protected() is None:
                self._count_event()
            else:
                self._sessions[first].move_to(self.version(), self._trees[-1])
        self._line.leave(session)
