"""Points 37 and 38, and point 42 as far as it speaks of logs: records, and the log on a disk."""

import inspect
import random
import re
import unittest

from sameanswers import log as log_file
from sameanswers.blocks import encode_record
from sameanswers.disks import Disk
from sameanswers.errors import LogFull, NotKept, NotOpen, OutOfRange, PowerCut
from sameanswers.log import Log, format_disk, open_log, read_record, write_record
from sameanswers.trees import Tree

ZEROS = [0] * 32
FILES = (("a", ("x", "", "y z")), ("d/e", ()))
FIRST = ("first", Tree(FILES))
EPOCH = ("epoch",)
ACTIONS = (
    ("read", "a"),
    ("kind", ""),
    ("list", "d"),
    ("find", "d/e", "(w]"),
    ("count", ""),
    ("write", "b", ("~", "")),
    ("remove", "b"),
    ("move", "a", "c/d/e"),
    ("splice", "a", ("x",), ("y", "z")),
)
ACCEPT = ("accept", 2, 9999, "me", ACTIONS)
EMPTY = ("accept", 0, 0, "abcdefgh", ())
# An accepted record of two pieces.
WIDE = ("accept", 1, 7, "me", (("write", "d/e", ("a line of 20 signs..",)),))

TEXTS = (
    (FIRST, 'first\n(write a ["x" "" "y z"])\n(write d/e [])\n'),
    (("first", Tree()), "first\n"),
    (EPOCH, "epoch\n"),
    (EMPTY, "accept 0 0 abcdefgh\n"),
    (("accept", 1, 10, "9", (("remove", "a"),)), "accept 1 10 9\n(remove a)\n"),
    (
        ACCEPT,
        "accept 2 9999 me\n"
        "(read a)\n"
        "(kind .)\n"
        "(list d)\n"
        '(find d/e "(w]")\n'
        "(count .)\n"
        '(write b ["~" ""])\n'
        "(remove b)\n"
        "(move a c/d/e)\n"
        '(splice a ["x"] ["y" "z"])\n',
    ),
)

PATH = "[a-z0-9]{1,8}(/[a-z0-9]{1,8}){0,2}"
PLACE = f"([.]|{PATH})"
LINE = '"[ !#$&-~]{0,20}"'
LINES = f"\\[({LINE}( {LINE}){{0,11}})?\\]"
ACTION = "|".join(
    (
        f"(read|remove) {PATH}",
        f"(kind|list|count) {PLACE}",
        f'find {PLACE} "[ !#$&-~]{{1,12}}"',
        f"write {PATH} {LINES}",
        f"move {PATH} {PATH}",
        f"splice {PATH} \\[{LINE}( {LINE}){{0,11}}\\] {LINES}",
    )
)
TAKEN = re.compile(
    "epoch\n"
    f"|accept [0-2] (0|[1-9][0-9]{{0,3}}) [a-z0-9]{{1,8}}\n(\\(({ACTION})\\)\n)*"
    f"|first\n(\\(write {PATH} {LINES}\\)\n)*"
)


def is_written(text):
    """Whether the text is that of a record, by the patterns above; the paths of a first one rise and lie apart."""
    if not TAKEN.fullmatch(text):
        return False
    paths = [row.split(" ")[1] for row in text.split("\n")[1:-1]]
    if not text.startswith("first"):
        return True
    return paths == sorted(set(paths)) and not any(one.startswith(other + "/") for one in paths for other in paths)


def same(one, other):
    """Whether two records are the same: trees are compared by their files."""
    if one is None or other is None or one[0] != "first" or other[0] != "first":
        return one == other
    return one[1].is_same(other[1])


def told_of_disk(disk):
    return [disk.read(at) for at in range(disk.size())]


def blocks_of(*records):
    """The blocks of records that lie one after another."""
    return [block for number, record in enumerate(records) for block in encode_record(number, write_record(record))]


def disk_with(blocks, size=40):
    """A disk with these blocks from block 0 on."""
    disk = Disk(size)
    for at, block in enumerate(blocks):
        disk.write(at, block)
    disk.flush()
    return disk


def opened(size=40, tree=None):
    """A log with nothing but version 0, and its disk."""
    disk = Disk(size)
    format_disk(disk, Tree(FILES) if tree is None else tree)
    return open_log(disk), disk


class LogCase(unittest.TestCase):
    def check_records(self, told, *records):
        self.assertIs(type(told), list)
        self.assertEqual(len(told), len(records))
        for one, other in zip(told, records):
            self.assertTrue(same(one, other), (one, other))

    def check_opened(self, disk, *records):
        """The log that is opened has these records, and the disk has nothing else and nothing that waits."""
        log = open_log(disk)
        self.assertIs(type(log), Log)
        self.check_records(log.records(), *records)
        blocks = blocks_of(*records)
        self.assertEqual(told_of_disk(disk), blocks + [ZEROS] * (disk.size() - len(blocks)))
        self.assertEqual(disk.pending_count(), 0)
        self.assertEqual(log.free_blocks(), disk.size() - len(blocks))
        return log

    def check_not_kept(self, disk):
        before = told_of_disk(disk), disk.pending_count()
        with self.assertRaises(NotKept):
            open_log(disk)
        self.assertEqual((told_of_disk(disk), disk.pending_count()), before)


class Records(LogCase):
    def test_the_numbers(self):
        self.assertEqual((log_file.DESKS_MOST, log_file.SERIAL_MOST), (3, 9999))

    def test_each_kind_sign_by_sign(self):
        for record, text in TEXTS:
            self.assertEqual(write_record(record), text)
            told = read_record(text)
            self.assertIs(type(told), tuple)
            self.assertTrue(same(told, record))

    def test_the_files_of_a_first_record_rise(self):
        tree = Tree((("b", ()), ("a/b", ()), ("a0", ())))
        self.assertEqual(write_record(("first", tree)), "first\n(write a/b [])\n(write a0 [])\n(write b [])\n")
        self.assertTrue(read_record(write_record(("first", tree)))[1].is_same(tree))

    def test_one_sign_left_out_put_in_or_changed(self):
        taken = 0
        for _, text in TEXTS:
            others = []
            for at in range(len(text) + 1):
                others.append(text[:at] + text[at + 1 :])
                for sign in ' .()[]"0129aez\n~E%':
                    others.append(text[:at] + sign + text[at:])
                    others.append(text[:at] + sign + text[at + 1 :])
            for other in set(others):
                told = read_record(other)
                self.assertEqual(told is not None, is_written(other), other)
                if told is not None:
                    taken += 1
                    self.assertEqual(write_record(told), other)
        # Some of them are texts of other records, as with another serial.
        self.assertGreater(taken, 100)

    def test_desks_and_serials(self):
        for desk in ("0", "1", "2"):
            for serial in ("0", "1", "9", "10", "99", "999", "1000", "9999"):
                record = ("accept", int(desk), int(serial), "me", ())
                self.assertEqual(read_record(f"accept {desk} {serial} me\n"), record)
        for desk in ("3", "9", "10", "-1", "00", "01", "+1", "", " 0", "a", "1.0", "0_0"):
            self.assertIsNone(read_record(f"accept {desk} 0 me\n"), desk)
        for serial in ("10000", "99999", "-1", "00", "01", "0009", "00009", "+1", "", " 1", "1e3", "1_0", "9" * 5000):
            self.assertIsNone(read_record(f"accept 0 {serial} me\n"), serial)
        self.assertEqual(write_record(("accept", 3, 10000, "me", ())), "accept 3 10000 me\n")
        self.assertIsNone(read_record("accept 3 10000 me\n"))

    def test_names(self):
        for name in ("a", "0", "abcdefgh"):
            self.assertEqual(read_record(f"accept 0 0 {name}\n"), ("accept", 0, 0, name, ()))
        for name in ("", "A", "a/b", "abcdefghi", "a b", "me "):
            self.assertIsNone(read_record(f"accept 0 0 {name}\n"), name)

    def test_heads(self):
        texts = ("", "\n", "epoch", "epoch ", " epoch\n", "epoch\n\n", "epoch\n(read a)\n", "epoch \n", "Epoch\n")
        texts += ("first", "first \n", "first\n\n", "first\nfirst\n", "epoch\nepoch\n", "accept\n", "accept 0 0\n")
        texts += ("accept 0 0 me", "accept  0 0 me\n", "accept 0 0 me a\n", "accept 0 me\n", "write 0 0 me\n")
        texts += ("(read a)\n", "\n(read a)\n", "first(write a [])\n", "accept 0 0 me (read a)\n", "accept\n0 0 me\n")
        for text in texts:
            self.assertIsNone(read_record(text), text)

    def test_a_first_record_is_the_written_form_of_a_tree(self):
        texts = (
            "first\n(write b [])\n(write a [])\n",
            "first\n(write a [])\n(write a [])\n",
            'first\n(write a ["x"])\n(write a [])\n',
            "first\n(write a [])\n(write a/b [])\n",
            "first\n(write a/b [])\n(write a [])\n",
            "first\n(write a [])\n(read a)\n",
            "first\n(write a [])\n(remove a)\n",
            "first\n(write a [])\n(move a b)\n",
            "first\n(remove a)\n",
            "first\n(count .)\n",
            "first\n(write a [])",
            "first\n (write a [])\n",
            "first\n(write  a [])\n",
            "first\n(write a [ ])\n",
            "first\n(write a []) (write b [])\n",
            "first\n(write a [])\n\n(write b [])\n",
        )
        for text in texts:
            self.assertIsNone(read_record(text), text)
        rows = "".join([f"(write n{k:02d} [])\n" for k in range(20)])
        self.assertEqual(len(read_record("first\n" + rows)[1].files()), 20)
        self.assertIsNone(read_record("first\n" + rows + "(write z [])\n"))

    def test_actions_in_another_form_or_out_of_bounds(self):
        for row in (
            "(read A)\n",
            "(read .)\n",
            '(find . "")\n',
            "(splice a [] [])\n",
            "(reads a)\n",
            "(read a\n)\n",
            "(read a) \n",
            '(write a ["x"  "y"])\n',
            "(write a [" + " ".join(['""'] * 13) + "])\n",
            '(find . "' + "w" * 13 + '")\n',
            '(write a ["' + "w" * 21 + '"])\n',
            '(write a ["\n"])\n',
        ):
            self.assertIsNone(read_record("accept 0 0 me\n" + row), row)
            self.assertIsNone(read_record("accept 0 0 me\n(count .)\n" + row + "(count .)\n"), row)

    def test_records_of_many_actions(self):
        rows = tuple([f"{k:020d}" for k in range(12)])
        for many in (12, 14, 40):
            record = ("accept", 0, 0, "me", (("splice", "a/b/c", rows, rows),) * many)
            text = write_record(record)
            self.assertGreater(len(text), 6120)
            self.assertEqual(read_record(text), record)
            self.assertIsNone(read_record(text + " "))
        self.assertGreater(len(text), 20000)


class Formatting(LogCase):
    def test_record_0_and_zeros_behind_it(self):
        for files in ((), FILES, tuple([(f"n{k}", ("some text",) * 3) for k in range(10)])):
            disk = Disk(60)
            self.assertIsNone(format_disk(disk, Tree(files)))
            self.check_opened(disk, ("first", Tree(files)))

    def test_it_is_flushed(self):
        disk = Disk(20)
        format_disk(disk, Tree(FILES))
        self.assertEqual(disk.pending_count(), 0)
        before = told_of_disk(disk)
        disk.cut_power([])
        self.assertEqual(told_of_disk(disk), before)
        self.assertEqual(before, blocks_of(FIRST) + [ZEROS] * (20 - len(blocks_of(FIRST))))

    def test_whatever_was_there_is_gone(self):
        draw = random.Random(5)
        disk = Disk(20)
        for at in range(20):
            disk.write(at, [draw.randrange(256) for _ in range(32)])
        disk.write(0, [1] * 32)
        format_disk(disk, Tree(FILES))
        self.check_opened(disk, FIRST)
        log = open_log(disk)
        log.append(WIDE)
        log.append(EPOCH)
        log.sync()
        format_disk(disk, Tree(FILES))
        self.assertEqual(told_of_disk(disk), blocks_of(FIRST) + [ZEROS] * (20 - len(blocks_of(FIRST))))

    def test_a_tree_that_does_not_fit(self):
        # One file with so many lines has a text of so many pieces.
        for size in (8, 9, 12):
            for files in self.around(size):
                many = len(blocks_of(("first", Tree(files))))
                disk = disk_with([[7] * 32] * size, size)
                if many <= size:
                    format_disk(disk, Tree(files))
                    self.check_opened(disk, ("first", Tree(files)))
                else:
                    with self.assertRaises(LogFull):
                        format_disk(disk, Tree(files))
                    self.assertEqual(told_of_disk(disk), [[7] * 32] * size)
                    self.assertEqual(disk.pending_count(), 0)

    def around(self, size):
        """Files of texts that need from one block less to one block more than this size."""
        made = []
        for most in (size - 1, size, size + 1):
            rows = ["x" * 10] * 12
            files = [(f"n{k}", tuple(rows)) for k in range(5)]
            while len(write_record(("first", Tree(files)))) > 24 * most:
                path, last = files.pop()
                if last:
                    files.append((path, last[:-1]))
            made.append(tuple(files))
            longer = list(files)
            longer.append(("z", ("x" * 20,)))
            made.append(tuple(longer))
        sizes = {len(blocks_of(("first", Tree(files)))) for files in made}
        self.assertTrue({size - 1, size, size + 1} <= sizes, sizes)
        return made

    def test_more_than_255_pieces_do_not_fit_on_any_disk(self):
        files = [(f"dir{k:05d}/dir00000/dir00000", ("x" * 20,) * 12) for k in range(20)]
        self.assertGreater(len(write_record(("first", Tree(files)))), 6120)
        disk = Disk(400)
        with self.assertRaises(LogFull):
            format_disk(disk, Tree(files))
        self.assertEqual((told_of_disk(disk), disk.pending_count()), ([ZEROS] * 400, 0))
        format_disk(disk, Tree(files[1:]))
        self.check_opened(disk, ("first", Tree(files[1:])))

    def test_cuts(self):
        for size in (8, 12):
            many = size + 1
            for torn in ([], [32] * 99, [31] * 99, [0, 32] * 50, [32, 0] * 50, [32] * 3 + [5]):
                for k in range(many):
                    disk = Disk(size)
                    disk.schedule_cut(k, torn)
                    with self.assertRaises(PowerCut):
                        format_disk(disk, Tree(FILES))
                    try:
                        self.check_records(open_log(disk).records(), FIRST)
                    except NotKept:
                        self.assertFalse(k > len(blocks_of(FIRST)) and torn == [32] * 99)
                disk = Disk(size)
                disk.schedule_cut(many, torn)
                format_disk(disk, Tree(FILES))
                self.assertEqual(disk.cut_count(), 0)


class Opening(LogCase):
    def test_what_was_appended_and_flushed(self):
        log, disk = opened()
        records = [FIRST, EPOCH, ACCEPT, EMPTY, EPOCH, WIDE]
        for record in records[1:]:
            log.append(record)
        log.sync()
        disk.cut_power([])
        self.check_opened(disk, *records)
        self.check_opened(disk, *records)

    def test_what_waits_is_read_and_flushed(self):
        log, disk = opened()
        log.append(WIDE)
        self.assertEqual(disk.pending_count(), 3)
        self.check_opened(disk, FIRST, WIDE)
        disk.cut_power([])
        self.check_opened(disk, FIRST, WIDE)

    def test_no_log(self):
        self.check_not_kept(Disk(8))
        self.check_not_kept(Disk(400))
        draw = random.Random(3)
        self.check_not_kept(disk_with([[draw.randrange(256) for _ in range(32)] for _ in range(10)], 10))
        for text in ("epoch\n", "accept 0 0 me\n", "first", "", "first\n(write b [])\n(write a [])\n"):
            self.check_not_kept(disk_with(encode_record(0, text), 10))

    def test_record_0_that_cannot_be_read(self):
        good = blocks_of(FIRST)
        self.assertEqual(len(good), 2)
        for number in (1, 2, 256):
            self.check_not_kept(disk_with(encode_record(number, write_record(FIRST)), 10))
        self.check_not_kept(disk_with([ZEROS] + good, 10))
        self.check_not_kept(disk_with(good[1:], 10))
        self.check_not_kept(disk_with(good[:1], 10))
        self.check_not_kept(disk_with(good[::-1], 10))
        self.check_not_kept(disk_with([good[0], good[0]], 10))
        for at in range(2):
            for k in range(32):
                blocks = [list(block) for block in good]
                blocks[at][k] ^= 128
                self.check_not_kept(disk_with(blocks, 10))

    def test_a_record_that_ends_with_the_disk(self):
        many = len(blocks_of(FIRST, EPOCH, WIDE))
        for size in range(8, 11):
            records = [FIRST] + [EPOCH] * (size - 2)
            self.check_opened(disk_with(blocks_of(*records), size), *records)
            records = [FIRST, EPOCH] + [EPOCH] * (size - many) + [WIDE]
            blocks = blocks_of(*records)
            self.assertEqual(len(blocks), size)
            self.check_opened(disk_with(blocks, size), *records)
            # One block further, its last piece would lie behind the disk.
            records.insert(1, EPOCH)
            self.check_opened(disk_with(blocks_of(*records)[:size], size), *records[:-1])

    def check_ends(self, behind, *records):
        """What stands behind these records is not read, and is zeros afterwards."""
        self.check_opened(disk_with(blocks_of(*records) + behind), *records)

    def test_records_with_another_number(self):
        for number in (0, 1, 3, 258):
            self.check_ends(encode_record(number, "epoch\n"), FIRST, EPOCH)
            self.check_ends(encode_record(number, write_record(WIDE)) + encode_record(2, "epoch\n"), FIRST, EPOCH)
        for number in (0, 2, 257):
            self.check_ends(encode_record(number, "epoch\n"), FIRST)

    def test_a_second_first_record(self):
        self.check_ends(encode_record(1, write_record(FIRST)), FIRST)
        self.check_ends(encode_record(1, "first\n") + encode_record(2, "epoch\n"), FIRST)
        self.check_ends(encode_record(2, "first\n"), FIRST, EPOCH)

    def test_texts_of_no_record(self):
        texts = ("", "epoch", "epoch\n\n", "accept 3 0 me\n", "accept 0 10000 me\n", "accept 0 00 me\n")
        for text in texts + ("accept 0 0 A\n", "accept 0 0 me\n(read A)\n", "accept 0 0 me\n(read  a)\n", "x" * 100):
            self.check_ends(encode_record(2, text) + encode_record(3, "epoch\n"), FIRST, EPOCH)
            self.check_ends(encode_record(2, text) + encode_record(2, "epoch\n"), FIRST, EPOCH)

    def test_pieces_that_are_not_those_of_one_record(self):
        good = encode_record(2, write_record(WIDE))
        self.assertEqual(len(good), 3)
        self.check_opened(disk_with(blocks_of(FIRST, EPOCH) + good), FIRST, EPOCH, WIDE)
        orders = ((0, 2, 1), (1, 0, 2), (2, 1, 0), (0, 0, 1, 2), (0, 1), (0, 2), (1, 2), (0,), (0, 1, 1), (1, 1, 2))
        for order in orders:
            self.check_ends([good[k] for k in order], FIRST, EPOCH)
            self.check_ends([good[k] for k in order] + encode_record(3, "epoch\n"), FIRST, EPOCH)
        for at in range(3):
            other = [list(block) for block in good]
            other[at] = ZEROS
            self.check_ends(other, FIRST, EPOCH)
            other[at] = encode_record(3, write_record(WIDE))[at]
            self.check_ends(other, FIRST, EPOCH)

    def test_pieces_of_another_count(self):
        good = encode_record(2, write_record(WIDE))
        for at in range(3):
            for many in (1, 2, 4, 255):
                other = [list(block) for block in good]
                other[at][2] = many
                self.check_ends(other, FIRST, EPOCH)
        # A text whose last piece is empty, or whose first one is short, is written otherwise.
        head = [76, 0, 2, 0, 2, 6] + [ord(sign) for sign in "epoch\n"] + [0] * 19 + [76]
        tail = [76, 1, 2, 0, 2, 0] + [0] * 25 + [76]
        self.check_ends([head, tail], FIRST, EPOCH)
        head = [76, 0, 2, 0, 2, 5] + [ord(sign) for sign in "epoch"] + [0] * 20 + [76]
        tail = [76, 1, 2, 0, 2, 1, 10] + [0] * 24 + [76]
        self.check_ends([head, tail], FIRST, EPOCH)

    def test_each_byte_counts(self):
        good = encode_record(2, write_record(WIDE))
        for at in range(3):
            for k in range(32):
                other = [list(block) for block in good]
                other[at][k] ^= 1
                told = disk_with(blocks_of(FIRST, EPOCH) + other)
                records = open_log(told).records()
                if len(records) > 2:
                    # Another character of its lines or names, which makes the text of another record.
                    self.assertIn(k, range(6, 30))
                    self.assertEqual(encode_record(2, write_record(records[2])), other)
                else:
                    self.check_opened(told, FIRST, EPOCH)

    def test_drawn_bytes_behind_the_records(self):
        for seed in range(20):
            draw = random.Random(seed)
            behind = [[draw.choice((0, 76, draw.randrange(256))) for _ in range(32)] for _ in range(20)]
            for block in behind[: draw.randrange(20)]:
                block[0] = block[31] = 76
            self.check_ends(behind, FIRST, EPOCH, WIDE)

    def test_records_behind_a_gap(self):
        self.check_ends([ZEROS] + encode_record(2, "epoch\n"), FIRST, EPOCH)

    def test_cuts_amid_the_opening(self):
        blocks = blocks_of(FIRST, EPOCH, WIDE)
        behind = encode_record(4, "epoch\n") + encode_record(3, write_record(WIDE))[:2] + [[76] * 32]
        for torn in ([], [32] * 99, [16] * 99, [0, 32] * 50, [32, 0, 1, 31] * 25):
            for size in (10, 12):
                k = 0
                while True:
                    disk = disk_with((blocks + behind)[:size], size)
                    disk.schedule_cut(k, torn)
                    try:
                        open_log(disk)
                    except PowerCut:
                        self.check_opened(disk, FIRST, EPOCH, WIDE)
                        k += 1
                    else:
                        break
                # Zeros to all blocks behind the records, and a flush.
                self.assertEqual(k, size - len(blocks) + 1)


class Appending(LogCase):
    def test_records_one_behind_the_other(self):
        log, disk = opened()
        self.check_records(log.records(), FIRST)
        free = 40 - len(blocks_of(FIRST))
        self.assertEqual(log.free_blocks(), free)
        records = [FIRST]
        for record in (EPOCH, WIDE, EMPTY, EPOCH, ACCEPT):
            self.assertIs(log.room(record), True)
            self.assertEqual(log.free_blocks(), free)
            records.append(record)
            self.assertEqual(log.append(record), len(records))
            free -= len(encode_record(0, write_record(record)))
            self.assertEqual(log.free_blocks(), free)
            self.check_records(log.records(), *records)
            blocks = blocks_of(*records)
            self.assertEqual(told_of_disk(disk), blocks + [ZEROS] * free)
        self.assertEqual(disk.pending_count(), 40 - free - len(blocks_of(FIRST)))
        self.assertIsNone(log.sync())
        self.assertEqual(disk.pending_count(), 0)

    def test_append_goes_on_behind_what_was_opened(self):
        log, disk = opened()
        log.append(WIDE)
        log.sync()
        log = open_log(disk)
        self.assertEqual(log.append(EPOCH), 3)
        self.check_opened(disk, FIRST, WIDE, EPOCH)

    def test_a_record_for_which_there_is_no_room(self):
        log, disk = opened(8)
        log.append(WIDE)
        before = told_of_disk(disk), disk.pending_count()
        big = ("accept", 0, 0, "me", (("write", "a", ("x" * 20,) * 12),))
        for record, room in ((WIDE, True), (big, False), (EPOCH, True)):
            self.assertIs(log.room(record), room)
            if not room:
                with self.assertRaises(LogFull):
                    log.append(record)
                self.check_records(log.records(), FIRST, WIDE)
                self.assertEqual(log.free_blocks(), 3)
                self.assertEqual((told_of_disk(disk), disk.pending_count()), before)
        self.assertEqual(log.append(EPOCH), 3)
        self.assertEqual(log.free_blocks(), 2)
        self.assertIs(log.room(WIDE), False)
        log.append(EPOCH)
        log.append(EPOCH)
        self.assertEqual(log.free_blocks(), 0)
        self.assertIs(log.room(EPOCH), False)
        with self.assertRaises(LogFull):
            log.append(EPOCH)
        self.check_opened(disk, FIRST, WIDE, EPOCH, EPOCH, EPOCH)

    def test_a_record_that_just_fits(self):
        log, disk = opened(8)
        for _ in range(3):
            log.append(EPOCH)
        self.assertEqual(log.free_blocks(), 3)
        self.assertIs(log.room(WIDE), True)
        log.append(WIDE)
        self.assertEqual(log.free_blocks(), 0)
        self.check_opened(disk, FIRST, EPOCH, EPOCH, EPOCH, WIDE)

    def test_a_record_of_more_than_255_pieces(self):
        log, disk = opened(400)
        rows = ("x" * 20,) * 12
        actions = (("splice", "a/b/c", rows, rows),) * 40
        self.assertIs(log.room(("accept", 0, 0, "me", actions)), False)
        with self.assertRaises(LogFull):
            log.append(("accept", 0, 0, "me", actions))
        self.assertIs(log.room(("accept", 0, 0, "me", actions[:10])), True)
        self.assertEqual(disk.pending_count(), 0)

    def test_every_list_is_new(self):
        log, _ = opened()
        log.append(EPOCH)
        log.records().clear()
        log.records().append(EPOCH)
        self.check_records(log.records(), FIRST, EPOCH)

    def test_200_accepted_records_and_a_further_one(self):
        log, disk = opened(400)
        records = [FIRST]
        for serial in range(200):
            record = ("accept", serial % 3, serial, "me", ())
            self.assertIs(log.room(record), True)
            log.append(record)
            records.append(record)
            if serial in (0, 99, 198, 199):
                log.append(EPOCH)
                records.append(EPOCH)
        self.assertIs(log.room(EMPTY), False)
        with self.assertRaises(LogFull):
            log.append(EMPTY)
        self.assertIs(log.room(EPOCH), True)
        self.assertEqual(log.append(EPOCH), 206)
        records.append(EPOCH)
        self.check_records(log.records(), *records)
        self.check_opened(disk, *records)

    def test_200_accepted_records_and_a_further_one_on_the_disk(self):
        records = [FIRST] + [("accept", 0, serial, "me", ()) for serial in range(200)] + [EPOCH]
        blocks = blocks_of(*records)
        behind = encode_record(202, "accept 0 200 me\n") + encode_record(203, "epoch\n")
        log = self.check_opened(disk_with(blocks + behind, 400), *records)
        self.assertIs(log.room(EMPTY), False)
        self.assertIs(log.room(EPOCH), True)
        behind = encode_record(202, "epoch\n") + encode_record(203, "accept 0 200 me\n")
        self.check_opened(disk_with(blocks + behind, 400), *records, EPOCH)


class Cuts(LogCase):
    PLAN = (EPOCH, "sync", WIDE, EMPTY, "sync", WIDE, EPOCH, EMPTY, "sync", "sync", WIDE, EMPTY)
    TORN = ([], [32] * 99, [31] * 99, [32, 0] * 50, [0, 32] * 50, [32] * 2 + [16] + [32] * 99, [32] * 3 + [31] * 99)

    def check_not_open(self, log, records, free):
        for call in (lambda: log.append(EPOCH), lambda: log.append(WIDE), log.sync):
            with self.assertRaises(NotOpen):
                call()
        self.check_records(log.records(), *records)
        self.assertEqual(log.free_blocks(), free)
        self.assertIs(log.room(EPOCH), True)
        self.assertIs(log.room(("accept", 0, 0, "me", (("write", "a", ("x" * 20,) * 12),) * 9)), False)

    def many_steps(self):
        """How many writes and flushes the plan makes."""
        return sum(1 if step == "sync" else len(blocks_of(step)) for step in self.PLAN)

    def go(self, log, disk):
        """Goes through the plan up to a cut: the records that were appended, and how many of them are synced."""
        records, synced = [FIRST], 1
        for step in self.PLAN:
            free = log.free_blocks()
            try:
                if step == "sync":
                    log.sync()
                else:
                    log.append(step)
            except PowerCut:
                self.check_not_open(log, records, free)
                return records + ([] if step == "sync" else [step]), synced
            if step == "sync":
                synced = len(records)
            else:
                records.append(step)
        return records, synced

    def test_at_each_write_and_flush(self):
        for torn in self.TORN:
            k = 0
            while True:
                log, disk = opened()
                disk.schedule_cut(k, torn)
                records, synced = self.go(log, disk)
                if disk.cut_count() == 0:
                    break
                k += 1
                told = open_log(disk).records()
                self.check_records(told, *records[: len(told)])
                self.assertGreaterEqual(len(told), synced)
                if torn == [32] * 99 and len(told) < len(records):
                    # Only the record amid which the cut came may be missing.
                    self.assertEqual(len(told), len(records) - 1)
                if torn == []:
                    self.assertEqual(len(told), synced)
                self.check_opened(disk, *told)
            self.assertEqual(k, self.many_steps())

    def test_drawn_cuts(self):
        for seed in range(150):
            draw = random.Random(seed)
            log, disk = opened()
            torn = [draw.choice((0, 5, 31, 32, 32, 32)) for _ in range(12)]
            disk.schedule_cut(draw.randrange(self.many_steps()), torn)
            records, synced = self.go(log, disk)
            self.assertEqual(disk.cut_count(), 1)
            told = open_log(disk).records()
            self.check_records(told, *records[: len(told)])
            self.assertGreaterEqual(len(told), synced)

    def test_a_cut_between_the_calls(self):
        for torn in self.TORN:
            log, disk = opened()
            log.append(EPOCH)
            log.sync()
            log.append(WIDE)
            free = log.free_blocks()
            disk.cut_power(torn)
            self.check_not_open(log, (FIRST, EPOCH, WIDE), free)
            told = open_log(disk)
            self.check_records(told.records(), *([FIRST, EPOCH, WIDE] if torn[:3] == [32] * 3 else [FIRST, EPOCH]))
            # The log of before stays as it is, whatever is opened anew.
            self.check_not_open(log, (FIRST, EPOCH, WIDE), free)
            self.assertEqual(told.append(EMPTY), len(told.records()))

    def test_not_open_comes_before_full(self):
        log, disk = opened(8)
        for _ in range(6):
            log.append(EPOCH)
        with self.assertRaises(LogFull):
            log.append(EPOCH)
        disk.cut_power([])
        with self.assertRaises(NotOpen):
            log.append(EPOCH)

    def test_again_and_again(self):
        draw = random.Random(8)
        log, disk = opened(400)
        kept = [FIRST]
        for _ in range(40):
            appended, synced = list(kept), len(kept)
            disk.schedule_cut(draw.randrange(12), [draw.choice((0, 31, 32, 32)) for _ in range(9)])
            try:
                while True:
                    record = draw.choice((EPOCH, EMPTY, WIDE))
                    appended.append(record)
                    log.append(record)
                    if draw.randrange(3) == 0:
                        log.sync()
                        synced = len(appended)
            except PowerCut:
                log = open_log(disk)
            kept = log.records()
            self.check_records(kept, *appended[: len(kept)])
            self.assertGreaterEqual(len(kept), synced)


class Interface(unittest.TestCase):
    METHODS = {"records": [], "append": ["record"], "room": ["record"], "sync": [], "free_blocks": []}
    FUNCTIONS = {
        "write_record": ["record"],
        "read_record": ["text"],
        "format_disk": ["disk", "tree"],
        "open_log": ["disk"],
    }

    def test_each_method_stands_in_the_class(self):
        self.assertEqual(Log.__module__, "sameanswers.log")
        for name, parameters in self.METHODS.items():
            with self.subTest(name=name):
                self.assertIn(name, vars(Log))
                self.assertEqual(list(inspect.signature(vars(Log)[name]).parameters), ["self"] + parameters)

    def test_the_functions_stand_in_their_file(self):
        for name, parameters in self.FUNCTIONS.items():
            with self.subTest(name=name):
                made = getattr(log_file, name)
                self.assertEqual(made.__module__, "sameanswers.log")
                self.assertEqual(list(inspect.signature(made).parameters), parameters)


if __name__ == "__main__":
    unittest.main()
