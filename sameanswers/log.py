"""The log on a disk: records one after another from block 0 on, of which a cut leaves a beginning."""

from sameanswers.blocks import PIECES_MOST, count_pieces, decode_piece, encode_record
from sameanswers.disks import BLOCK
from sameanswers.errors import LogFull, NotKept, NotOpen, TrunkError
from sameanswers.journals import run
from sameanswers.paths import is_name
from sameanswers.texts import read_actions, write_actions
from sameanswers.trees import Tree
from sameanswers.trunk import VERSIONS_MOST

DESKS_MOST = 3
SERIAL_MOST = 9999

FIRST = "first"
EPOCH = "epoch"
ACCEPT = "accept"


def write_tree(tree):
    """The text of the actions that write the files of a tree by rising paths."""
    return write_actions([("write", path, lines) for path, lines in tree.files()])


def write_record(record):
    """The text of a record."""
    if record[0] == FIRST:
        return FIRST + "\n" + write_tree(record[1])
    if record[0] == EPOCH:
        return EPOCH + "\n"
    _, desk, serial, name, actions = record
    return f"{ACCEPT} {desk} {serial} {name}\n" + write_actions(actions)


def is_number(word, most):
    """Whether the word is a number up to this one, as far as the writing of a record does not tell more."""
    # A longer word is not counted, since Python refuses to read a number of very many digits.
    return len(word) <= len(str(most)) and word.isdecimal() and int(word) <= most


def is_accept_head(words):
    """Whether these words begin the text of an accepted record."""
    if len(words) != 4 or words[0] != ACCEPT:
        return False
    return is_number(words[1], DESKS_MOST - 1) and is_number(words[2], SERIAL_MOST) and is_name(words[3])


def record_of(words, actions):
    """The record that begins with these words and has these actions, or None."""
    if words == [FIRST]:
        _, tree = run(Tree(), actions)
        return (FIRST, tree)
    if words == [EPOCH]:
        return (EPOCH,)
    if is_accept_head(words):
        return (ACCEPT, int(words[1]), int(words[2]), words[3], actions)
    return None


def read_rows(text):
    """The actions that are written in the rows of a text, or None."""
    actions = []
    # Row by row, since the actions of a record may be longer than a text that is read at once.
    for row in text.split("\n"):
        try:
            found = read_actions(row)
        except TrunkError:
            return None
        actions.extend(found)
    return tuple(actions)


def read_record(text):
    """The record of which this is the text, or None."""
    head, _, body = text.partition("\n")
    actions = read_rows(body)
    if actions is None:
        return None
    record = record_of(head.split(" "), actions)
    # What can be read in several ways is written in one: all others are no text of a record.
    if record is None or write_record(record) != text:
        return None
    return record


def write_blocks(disk, at, blocks):
    """Writes the blocks one after another from this place on."""
    for k, block in enumerate(blocks):
        disk.write(at + k, block)


def write_zeros(disk, at):
    """Writes zeros to all blocks from this place on."""
    write_blocks(disk, at, [[0] * BLOCK for _ in range(disk.size() - at)])


def is_fitting(record, blocks):
    """Whether so many blocks have room for the record."""
    return count_pieces(write_record(record)) <= min(blocks, PIECES_MOST)


def format_disk(disk, tree):
    """Makes the disk one whose log has this tree as version 0 and nothing else."""
    record = (FIRST, tree)
    if not is_fitting(record, disk.size()):
        raise LogFull("the disk has no room for the first record")
    blocks = encode_record(0, write_record(record))
    write_blocks(disk, 0, blocks)
    write_zeros(disk, len(blocks))
    disk.flush()


def read_blocks(disk, at, number):
    """The blocks from this place on, if they are those of one record with this number, and its text; else None."""
    head = decode_piece(disk.read(at))
    if head is None or at + head[1] > disk.size():
        return None
    blocks = [disk.read(k) for k in range(at, at + head[1])]
    pieces = [decode_piece(block) for block in blocks]
    if None in pieces:
        return None
    text = "".join([piece[3] for piece in pieces])
    return (blocks, text) if encode_record(number, text) == blocks else None


def count_accepted(records):
    """How many of the records are accepted ones."""
    return len([record for record in records if record[0] == ACCEPT])


def may_follow(records, record):
    """Whether the record may stand behind these records: the first one alone is a first one, few are accepted."""
    if (record[0] == FIRST) != (len(records) == 0):
        return False
    return record[0] != ACCEPT or count_accepted(records) < VERSIONS_MOST


def read_records(disk):
    """The records from block 0 on, as far as they can be read, and the block behind them."""
    records = []
    end = 0
    while end < disk.size():
        found = read_blocks(disk, end, len(records))
        record = None if found is None else read_record(found[1])
        if record is None or not may_follow(records, record):
            break
        records.append(record)
        end += len(found[0])
    return records, end


def open_log(disk):
    """The log on the disk; whatever stands behind its records is zeros then."""
    records, end = read_records(disk)
    if len(records) == 0:
        raise NotKept("the disk holds no log")
    write_zeros(disk, end)
    disk.flush()
    return Log(disk, records, end)


class Log:
    """The records on a disk, until its power is cut."""

    def __init__(self, disk, records, end):
        self._disk = disk
        self._records = list(records)
        self._end = end
        self._cuts = disk.cut_count()

    def is_open(self):
        """Whether the power was not cut since the log was opened."""
        return self._disk.cut_count() == self._cuts

    def check_open(self):
        """Raises NotOpen if the power was cut since the log was opened."""
        if not self.is_open():
            raise NotOpen("the power of the disk was cut")

    def records(self):
        """The list of the records."""
        return list(self._records)

    def room(self, record):
        """Whether the record could be appended."""
        if record[0] == ACCEPT and count_accepted(self._records) >= VERSIONS_MOST:
            return False
        return is_fitting(record, self.free_blocks())

    def append(self, record):
        """Writes the record behind the others; how many there are then."""
        self.check_open()
        if not self.room(record):
            raise LogFull("the log has no room for the record")
        blocks = encode_record(len(self._records), write_record(record))
        write_blocks(self._disk, self._end, blocks)
        self._end += len(blocks)
        self._records.append(record)
        return len(self._records)

    def sync(self):
        """Lets no cut take the records any longer that were appended up to now."""
        self.check_open()
        self._disk.flush()

    def free_blocks(self):
        """How many blocks are left behind the records."""
        return self._disk.size() - self._end
