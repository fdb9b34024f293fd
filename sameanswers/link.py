"""The link: a house and its desks, and the letters between them, which may be lost, doubled and late."""

from sameanswers.desks import Desk
from sameanswers.disks import Disk
from sameanswers.errors import NoLetter, NotOpen, OutOfRange, PowerCut
from sameanswers.house import House
from sameanswers.log import DESKS_MOST, format_disk
from sameanswers.trees import Tree

TO_HOUSE = ("open", "act", "submit")


class Link:
    """A house on its disk, 1 to 3 desks, and a row of letters, the eldest one first."""

    def __init__(self, files, patience, allowance, checks, desks, blocks):
        if not 1 <= desks <= DESKS_MOST:
            raise OutOfRange("desks")
        self._disk = Disk(blocks)
        format_disk(self._disk, Tree(files))
        self._patience = patience
        self._allowance = allowance
        self._checks = list(checks)
        self._desks = [Desk(number) for number in range(desks)]
        self._letters = []
        self.reopen()

    def start(self, desk, name, agent):
        """Begins a work of the desk; the serial of its session."""
        return self._desk(desk).start(name, agent)

    def done(self, desk):
        """The list of the works of the desk that are done."""
        return self._desk(desk).done()

    def is_at_work(self, desk):
        """Whether the desk has a work that is not done."""
        return self._desk(desk).is_at_work()

    def wanted(self, desk):
        """The letter that the desk wants to be heard, or None."""
        return self._desk(desk).wanted()

    def send(self, desk):
        """Puts the letter that the desk wants at the end of the row; whether there was one."""
        letter = self._desk(desk).wanted()
        if letter is None:
            return False
        self._letters.append(letter)
        return True

    def letters(self):
        """The list of the letters in the row."""
        return list(self._letters)

    def drop(self, letter):
        """Takes the letter with this index out of the row."""
        self._letter(letter)
        del self._letters[letter]

    def duplicate(self, letter):
        """Puts a second letter like the one with this index at the end of the row."""
        self._letters.append(self._letter(letter))

    def deliver(self, letter):
        """Delivers the letter with this index; whether the house answered it, or whether it counted at the desk."""
        told = self._letter(letter)
        if told[0] in TO_HOUSE:
            return self._tell_house(letter, told)
        del self._letters[letter]
        return self._desks[told[1]].hear(told)

    def sync(self):
        """Lets no cut take the versions any longer that were made up to now; the newest one."""
        return self._open_house().sync()

    def version(self):
        """The newest version of the house."""
        return self._open_house().version()

    def synced(self):
        """The newest version that no cut can take."""
        return self._open_house().synced()

    def epoch(self):
        """The epoch of the house."""
        return self._open_house().epoch()

    def tree(self, version):
        """The tree of a version."""
        return self._open_house().tree(version)

    def entry(self, version):
        """The name and the journal that led to a version."""
        return self._open_house().entry(version)

    def key(self, version):
        """The desk and the serial whose session made a version."""
        return self._open_house().key(version)

    def is_open(self):
        """Whether the house is open."""
        return self._house is not None and self._house.is_open()

    def cut_power(self, torn):
        """Cuts the power of the disk now."""
        self._disk.cut_power(torn)

    def schedule_cut(self, many, torn):
        """Lets the power be cut instead of the write or flush that comes after so many further ones."""
        self._disk.schedule_cut(many, torn)

    def reopen(self):
        """Opens a new house on the disk in place of the one before; its newest version."""
        # The house before is given up first: if no new one can be opened, none is open.
        self._house = None
        self._house = House(self._disk, self._patience, self._allowance, self._checks)
        return self._house.version()

    def _desk(self, desk):
        if not 0 <= desk < len(self._desks):
            raise OutOfRange("desk")
        return self._desks[desk]

    def _letter(self, at):
        if not 0 <= at < len(self._letters):
            raise NoLetter(f"no letter has the index {at}")
        return self._letters[at]

    def _open_house(self):
        if not self.is_open():
            raise NotOpen("the house is not open")
        return self._house

    def _tell_house(self, at, letter):
        """Delivers the letter at this index to the house; whether there was an answer."""
        answer = None
        if self.is_open():
            try:
                answer = self._house.receive(letter)
            except PowerCut:
                del self._letters[at]
                raise
        del self._letters[at]
        if answer is None:
            return False
        self._letters.append(answer)
        return True
