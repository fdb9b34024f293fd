"""The house: it keeps the versions of a trunk in a log, and desks work through it by letters."""

from sameanswers.actions import check_action
from sameanswers.errors import OutOfRange
from sameanswers.log import ACCEPT, DESKS_MOST, EPOCH, SERIAL_MOST, open_log
from sameanswers.paths import is_name
from sameanswers.sessions import OPEN
from sameanswers.trees import Tree
from sameanswers.trunk import JOURNAL_MOST, Trunk


def new_trunk(tree, patience, allowance, checks):
    """A trunk with these settings, whose version 0 is this tree."""
    trunk = Trunk(tree, patience, allowance)
    for name, check in checks:
        trunk.require(name, check)
    return trunk


def check_letter(letter):
    """Raises OutOfRange with the name of the first part of a letter to the house that is out of its bounds."""
    if not 0 <= letter[1] < DESKS_MOST:
        raise OutOfRange("desk")
    if not 0 <= letter[2] <= SERIAL_MOST:
        raise OutOfRange("serial")
    if letter[0] == "open" and not is_name(letter[3]):
        raise OutOfRange("name")
    if letter[0] == "act":
        check_action(letter[6])


class Seat:
    """The newest session of a desk in this epoch: its attempt, and the result of the attempt before, or None."""

    def __init__(self, serial, session):
        self.serial = serial
        self.session = session
        self.attempt = 0
        self.result = None


class House:
    """The versions that a log keeps, and the sessions of the desks until the power is cut."""

    def __init__(self, disk, patience, allowance, checks):
        # Settings that are refused leave the disk as it is, so they are tried before the log is opened.
        new_trunk(Tree(), patience, allowance, checks)
        self._log = open_log(disk)
        records = self._log.records()
        _, tree = records[0]
        self._trunk = new_trunk(tree, patience, allowance, checks)
        self._keys = []
        for record in records:
            if record[0] == ACCEPT:
                _, desk, serial, name, actions = record
                self._trunk.append(name, actions)
                self._keys.append((desk, serial))
        self._log.append((EPOCH,))
        self._log.sync()
        self._epoch = len([record for record in self._log.records() if record[0] == EPOCH])
        self._synced = len(self._keys)
        self._seats = {}

    def receive(self, letter):
        """Does what the letter says, if it is its time; the letter that answers it, or None."""
        self._log.check_open()
        check_letter(letter)
        word, desk, serial = letter[:3]
        if word == "open":
            return self._receive_open(desk, serial, letter[3])
        epoch, attempt = letter[3:5]
        if (desk, serial) in self._keys:
            return self._tell_accepted(desk, serial, attempt)
        seat = self._seats.get(desk)
        if epoch != self._epoch or seat is None or seat.serial != serial:
            return ("lost", desk, serial, epoch)
        if word == "act":
            answer = self._answer(seat, attempt, letter[5], letter[6])
            return None if answer is None else ("answer", desk, serial, attempt, letter[5], answer)
        result = self._result(seat, desk, attempt, letter[5])
        return None if result is None else ("result", desk, serial, attempt, result)

    def sync(self):
        """Lets no cut take the versions any longer that were made up to now; the newest one."""
        self._log.sync()
        self._synced = self.version()
        return self._synced

    def is_open(self):
        """Whether the power was not cut since the house was opened."""
        return self._log.is_open()

    def epoch(self):
        """How many epoch records the log has."""
        return self._epoch

    def version(self):
        """The newest version."""
        # Not that of the trunk: if the power is cut amid the record of a version, the log does not have it.
        return len(self._keys)

    def synced(self):
        """The newest version that no cut can take."""
        return self._synced

    def free_blocks(self):
        """How many blocks are left in the log."""
        return self._log.free_blocks()

    def tree(self, version):
        """The tree of a version."""
        self._check_version(version, 0)
        return self._trunk.tree(version)

    def entry(self, version):
        """The name and the journal that led to a version."""
        self._check_version(version, 1)
        return self._trunk.entry(version)

    def key(self, version):
        """The desk and the serial whose session made a version."""
        self._check_version(version, 1)
        return self._keys[version - 1]

    def _check_version(self, version, least):
        if not least <= version <= self.version():
            raise OutOfRange("version")

    def _receive_open(self, desk, serial, name):
        seat = self._seats.get(desk)
        if seat is None or seat.serial < serial:
            if seat is not None and self._is_at_work(seat):
                self._trunk.close(seat.session)
            seat = Seat(serial, self._trunk.begin(name))
            self._seats[desk] = seat
        return ("opened", desk, serial, self._epoch) if seat.serial == serial else None

    def _tell_accepted(self, desk, serial, attempt):
        version = self._keys.index((desk, serial)) + 1
        # Before it is synced a cut may take the version, and nobody may have been told of it.
        return ("result", desk, serial, attempt, ("accepted", version)) if version <= self._synced else None

    def _is_at_work(self, seat):
        return self._trunk.state(seat.session) == OPEN

    def _answer(self, seat, attempt, position, action):
        """The answer of the entry at this position, which is made if it is the next one; None if it is another one."""
        if attempt != seat.attempt or not self._is_at_work(seat):
            return None
        journal = self._trunk.journal(seat.session)
        if position == len(journal) and position < JOURNAL_MOST:
            return self._trunk.act(seat.session, position, action)
        if 0 <= position < len(journal) and journal[position][0] == action:
            return journal[position][1]
        return None

    def _result(self, seat, desk, attempt, position):
        """The result of this attempt, if there is one that may be told."""
        if attempt == seat.attempt - 1:
            return seat.result
        if attempt != seat.attempt or not self._is_at_work(seat):
            return None
        journal = self._trunk.journal(seat.session)
        record = (ACCEPT, desk, seat.serial, self._trunk.name(seat.session), tuple([action for action, _ in journal]))
        # The log has no room either if as many versions have been made as may be.
        if position != len(journal) or not self._log.room(record):
            return None
        result = self._trunk.submit(seat.session, position)
        if result[0] == "accepted":
            self._log.append(record)
            self._keys.append((desk, seat.serial))
            return None
        if result[0] == "failed":
            self._trunk.close(seat.session)
        seat.attempt += 1
        seat.result = result
        return result
