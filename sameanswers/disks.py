"""A disk in memory: its writes wait for a flush, and its power can be cut before they are performed."""

from sameanswers.errors import OutOfRange, PowerCut

BLOCK = 32
BLOCKS_MOST = 400

BLOCKS_LEAST = 8
BYTE_MOST = 255
MANY_MOST = 100000


def is_block(block):
    """Whether these are 32 numbers from 0 to 255."""
    return len(block) == BLOCK and all([0 <= byte <= BYTE_MOST for byte in block])


def check_torn(torn):
    """Raises OutOfRange if one of the numbers of bytes is none that a write may have stored."""
    if not all([0 <= many <= BLOCK for many in torn]):
        raise OutOfRange("torn")


class Disk:
    """Blocks of 32 bytes, the writes that wait for a flush, and perhaps a cut of the power to come."""

    def __init__(self, blocks):
        if not BLOCKS_LEAST <= blocks <= BLOCKS_MOST:
            raise OutOfRange("blocks")
        self._blocks = [(0,) * BLOCK for _ in range(blocks)]
        self._waiting = []
        self._cuts = 0
        self._left = None
        self._torn = ()

    def size(self):
        """How many blocks there are."""
        return len(self._blocks)

    def read(self, at):
        """The bytes of a block as the waiting writes would leave them."""
        self._check_at(at)
        found = self._blocks[at]
        for where, block in self._waiting:
            if where == at:
                found = block
        return list(found)

    def write(self, at, block):
        """Lets a write of this block wait for the next flush."""
        self._check_at(at)
        if not is_block(block):
            raise OutOfRange("block")
        self._count()
        self._waiting.append((at, tuple(block)))

    def flush(self):
        """Performs all waiting writes in order."""
        self._count()
        for at, block in self._waiting:
            self._blocks[at] = block
        self._waiting = []

    def pending_count(self):
        """How many writes wait."""
        return len(self._waiting)

    def cut_count(self):
        """How often the power was cut."""
        return self._cuts

    def cut_power(self, torn):
        """Cuts the power now; of each waiting write only so many bytes are stored, none where torn is shorter."""
        check_torn(torn)
        for (at, block), many in zip(self._waiting, torn):
            self._blocks[at] = block[:many] + self._blocks[at][many:]
        self._waiting = []
        self._left = None
        self._cuts += 1

    def schedule_cut(self, many, torn):
        """Lets the power be cut instead of the write or flush that comes after so many further ones."""
        if not 0 <= many <= MANY_MOST:
            raise OutOfRange("many")
        check_torn(torn)
        self._left = many
        self._torn = tuple(torn)

    def _check_at(self, at):
        if not 0 <= at < len(self._blocks):
            raise OutOfRange("at")

    def _count(self):
        """Counts a write or flush that is about to be done, unless the power is to be cut instead."""
        if self._left is None:
            return
        if self._left == 0:
            self.cut_power(self._torn)
            raise PowerCut("the power was cut")
        self._left -= 1
