"""One session of a trunk: its journal on its base, and the tree that it sees."""

from sameanswers.journals import lead, run

OPEN = "open"
ACCEPTED = "accepted"
CLOSED = "closed"


class Session:
    """What was asked and done under one name since the session began."""

    def __init__(self, name, base, tree):
        self.name = name
        self.base = base
        self.journal = ()
        self.refusals = 0
        self.state = OPEN
        self.sight = tree

    def do(self, actions):
        """Applies the actions to the tree that the session sees, and adds them to its journal."""
        entries, self.sight = run(self.sight, actions)
        self.journal = self.journal + entries

    def move_to(self, base, tree):
        """Sees the tree of another version from now on, on which its journal holds."""
        self.base = base
        self.sight = lead(self.journal, tree)

    def refuse(self, at, base, tree):
        """Keeps the entries before this index, which hold on the tree of the new base."""
        self.journal = self.journal[:at]
        self.move_to(base, tree)
        self.refusals += 1
