"""The line of the sessions of a trunk that were refused too often: the first one may be protected."""


class Line:
    """The numbers of sessions in their order, and the events that were counted for the first one."""

    def __init__(self, patience, allowance):
        self._patience = patience
        self._allowance = allowance
        self._row = []
        self._events = 0
        self._is_guarded = False

    def sessions(self):
        """The list of the sessions in the line."""
        return list(self._row)

    def place(self, session):
        """The index of the session in the line, or None."""
        return self._row.index(session) if session in self._row else None

    def first(self):
        """The first session in the line, or None."""
        return self._row[0] if len(self._row) > 0 else None

    def protected(self):
        """The session that is protected, or None."""
        return self.first() if self._is_guarded else None

    def unprotect(self):
        """No session is protected any longer."""
        self._is_guarded = False

    def refuse(self, session, refusals):
        """The session was refused, so many times by now: it may join the line, or be protected as its first one."""
        if session not in self._row and refusals >= self._patience:
            self._row.append(session)
            # Whoever joins an empty line need not be refused again as its first one.
            if len(self._row) == 1:
                self._is_guarded = True
        elif self.first() == session:
            self._is_guarded = True

    def leave(self, session):
        """The session is in the line no longer, if it was; what was counted for a first one is over with it."""
        if session not in self._row:
            return
        if self.first() == session:
            self._events = 0
            self._is_guarded = False
        self._row.remove(session)

    def count_event(self):
        """Counts an event for the first session; the session itself if it leaves the line therefore, otherwise None."""
        self._events += 1
        if self._events < self._allowance:
            return None
        session = self.first()
        self.leave(session)
        return session
