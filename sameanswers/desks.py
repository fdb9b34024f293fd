"""Desks: each runs one agent at a time through the letters that it hears and wants."""

from sameanswers.agents import STOP, check_agent, row_after
from sameanswers.errors import AtWork, OutOfRange
from sameanswers.paths import is_name


class Desk:
    """One work at a time, done in sessions of which each later one has the next serial."""

    def __init__(self, number):
        self._number = number
        self._is_busy = False
        self._name = ""
        self._agent = ()
        # The first session has the serial 0.
        self._serial = -1
        self._epoch = None
        self._attempt = 0
        self._journal = ()
        self._row = 0
        self._done = []

    def start(self, name, agent):
        """Begins a work; the serial of its session."""
        if self._is_busy:
            raise AtWork("the desk is at work")
        if not is_name(name):
            raise OutOfRange("name")
        check_agent(agent)
        self._name = name
        self._agent = agent
        self._is_busy = True
        self._begin()
        return self._serial

    def wanted(self):
        """The letter that the desk wants to be heard, or None."""
        if not self._is_busy:
            return None
        if self._epoch is None:
            return ("open", self._number, self._serial, self._name)
        head = (self._number, self._serial, self._epoch, self._attempt, len(self._journal))
        if self._is_at_end():
            return ("submit", *head)
        return ("act", *head, self._agent[self._row][1])

    def hear(self, letter):
        """Goes on by what the letter tells; whether it counted."""
        if not self._is_busy or letter[1:3] != (self._number, self._serial):
            return False
        word = letter[0]
        if word == "opened":
            return self._hear_opened(letter[3])
        if word == "lost":
            return self._hear_lost(letter[3])
        if word == "answer":
            return self._hear_answer(letter[3], letter[4], letter[5])
        if word == "result":
            return self._hear_result(letter[3], letter[4])
        return False

    def is_at_work(self):
        """Whether the desk has a work that is not done."""
        return self._is_busy

    def done(self):
        """The list of the works that are done: name, serial of the last session, version or None, and journal."""
        return list(self._done)

    def journal(self):
        """The present journal, or that of the last work."""
        return self._journal

    def _begin(self):
        """Begins a session with the next serial, of which nothing is known yet."""
        self._serial += 1
        self._epoch = None
        self._attempt = 0
        self._journal = ()
        self._row = 0

    def _is_at_end(self):
        return self._agent[self._row] == STOP

    def _hear_opened(self, epoch):
        if self._epoch is not None:
            return False
        self._epoch = epoch
        return True

    def _hear_lost(self, epoch):
        if epoch != self._epoch:
            return False
        self._begin()
        return True

    def _hear_answer(self, attempt, position, answer):
        if self._epoch is None or self._is_at_end():
            return False
        if attempt != self._attempt or position != len(self._journal):
            return False
        self._keep(self._journal + ((self._agent[self._row][1], answer),))
        return True

    def _hear_result(self, attempt, result):
        if self._epoch is None or (attempt != self._attempt and result[0] != "accepted"):
            return False
        if result[0] == "accepted":
            self._finish(result[1])
        elif result[0] == "failed":
            self._finish(None)
        else:
            self._attempt += 1
            if result[0] == "refused":
                self._keep(self._journal[: result[1]])
        return True

    def _keep(self, journal):
        """Has this journal from now on, and is at the row of the agent after its answers."""
        self._journal = journal
        self._row = row_after(self._agent, journal)

    def _finish(self, version):
        """Ends the work, with this version or without one."""
        self._done.append((self._name, self._serial, version, self._journal))
        self._is_busy = False
