"""What the tests of houses and links share: disks with logs, letters, and all that a house tells."""

from sameanswers.disks import Disk
from sameanswers.house import House
from sameanswers.log import format_disk, open_log
from sameanswers.trees import Tree

FILES = (("a", ("x",)), ("b", ("y",)))
DONE = ("done",)
PASS = ("pass",)
FAIL = ("fail",)
READ = ("read", "a")
# Fails as long as there is a file called bad.
NO_BAD = ("clean", (("ask", ("kind", "bad"), ((("none",), 1),), 2), PASS, FAIL))


def lines(*rows):
    return ("lines", rows)


def write(path, *rows):
    return ("write", path, rows)


def formatted(size=60, files=FILES):
    disk = Disk(size)
    format_disk(disk, Tree(files))
    return disk


def log_with(*records, size=60, files=FILES):
    """A disk whose log has these records behind the first one."""
    disk = formatted(size, files)
    log = open_log(disk)
    for record in records:
        log.append(record)
    log.sync()
    return disk


def told_of_disk(disk):
    return [disk.read(at) for at in range(disk.size())], disk.pending_count()


def told_of(house):
    """All that the house, or a link whose house is open, tells of its versions."""
    version = house.version()
    return (
        house.epoch(),
        version,
        house.synced(),
        [house.tree(k).files() for k in range(version + 1)],
        [house.entry(k) for k in range(1, version + 1)],
        [house.key(k) for k in range(1, version + 1)],
    )


class Caller:
    """Letters to a house about one session of a desk: the epoch and the attempt are those it had when it was opened."""

    def __init__(self, house, desk=0, serial=0, name="me"):
        self.house, self.desk, self.serial, self.name = house, desk, serial, name
        self.epoch, self.attempt, self.position = house.epoch(), 0, 0

    def letter(self, word, *rest, **other):
        told = {"desk": self.desk, "serial": self.serial, "epoch": self.epoch}
        told.update(attempt=self.attempt, position=self.position)
        told.update(other)
        if word == "open":
            return ("open", told["desk"], told["serial"], *(rest or (self.name,)))
        return (word, *[told[part] for part in ("desk", "serial", "epoch", "attempt", "position")], *rest)

    def open(self, **other):
        return self.house.receive(self.letter("open", **other))

    def act(self, action, **other):
        """Sends an act letter; what it was told, and one position further if there was an answer."""
        told = self.house.receive(self.letter("act", action, **other))
        if told is not None and told[0] == "answer" and not other:
            self.position += 1
        return told

    def do(self, *actions):
        for action in actions:
            assert self.act(action)[0] == "answer", action
        return self

    def submit(self, **other):
        return self.house.receive(self.letter("submit", **other))

    def result(self, *result, attempt=None):
        return ("result", self.desk, self.serial, self.attempt if attempt is None else attempt, result)

    def answer(self, answer, position=None):
        at = self.position if position is None else position
        return ("answer", self.desk, self.serial, self.attempt, at, answer)

    def lost(self, **other):
        told = {"desk": self.desk, "serial": self.serial, "epoch": self.epoch}
        told.update(other)
        return ("lost", told["desk"], told["serial"], told["epoch"])


def caller(house, desk=0, serial=0, *actions, name="me"):
    """A session that was opened and has done these actions."""
    made = Caller(house, desk, serial, name)
    assert made.open() == ("opened", desk, serial, house.epoch())
    return made.do(*actions)


def house_on(disk, patience=2, allowance=3, checks=()):
    return House(disk, patience, allowance, list(checks))
