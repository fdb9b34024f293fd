"""Point 36: texts as records in pieces, byte by byte."""

import inspect
import unittest

from sameanswers import blocks
from sameanswers.blocks import decode_piece, encode_record
from sameanswers.disks import Disk
from sameanswers.errors import OutOfRange

SIGNS = "".join([chr(code) for code in range(32, 127) if code != 37]) + "\n"


def text_of(many):
    return "".join([SIGNS[(7 * k + k // 24) % len(SIGNS)] for k in range(many)])


def piece(index, many, number, text):
    """The bytes of a piece as point 36 lists them."""
    codes = [ord(sign) for sign in text]
    block = [76, index, many, number >> 8, number & 255, len(codes)] + codes
    return block + [0] * (31 - len(block)) + [76]


class Encoding(unittest.TestCase):
    def test_the_numbers(self):
        self.assertEqual((blocks.PIECE, blocks.PIECES_MOST), (24, 255))

    def test_byte_by_byte(self):
        zeros = [0] * 25
        self.assertEqual(encode_record(0, ""), [[76, 0, 1, 0, 0, 0] + zeros + [76]])
        self.assertEqual(encode_record(1, "a"), [[76, 0, 1, 0, 1, 1, 97] + zeros[1:] + [76]])
        self.assertEqual(encode_record(258, "~ \n"), [[76, 0, 1, 1, 2, 3, 126, 32, 10] + zeros[3:] + [76]])
        full = [[76, 0, 1, 0, 9, 24] + [98] * 24 + [0, 76]]
        self.assertEqual(encode_record(9, "b" * 24), full)
        self.assertEqual(encode_record(9, "b" * 23), [[76, 0, 1, 0, 9, 23] + [98] * 23 + [0, 0, 76]])
        two = [[76, 0, 2, 0, 9, 24] + [98] * 24 + [0, 76], [76, 1, 2, 0, 9, 1, 99] + zeros[1:] + [76]]
        self.assertEqual(encode_record(9, "b" * 24 + "c"), two)

    def test_pieces_of_24_characters(self):
        for length in (0, 1, 23, 24, 25, 47, 48, 49, 100, 6119, 6120):
            for number in (0, 1, 255, 256, 399, 65535):
                text = text_of(length)
                rows = [text[at : at + 24] for at in range(0, length, 24)] or [""]
                told = encode_record(number, text)
                self.assertEqual(told, [piece(k, len(rows), number, row) for k, row in enumerate(rows)])
                self.assertIs(type(told), list)
                for block in told:
                    self.assertIs(type(block), list)
                    self.assertEqual(len(block), 32)
        self.assertEqual(len(encode_record(0, text_of(6120))), 255)

    def test_every_character(self):
        for sign in SIGNS:
            self.assertEqual(encode_record(3, sign), [piece(0, 1, 3, sign)])

    def test_more_than_255_pieces(self):
        for length in (6121, 6122, 6144, 8000):
            with self.assertRaises(OutOfRange) as held:
                encode_record(0, text_of(length))
            self.assertEqual(held.exception.name, "text")

    def test_the_blocks_are_new_each_time(self):
        told = encode_record(0, "a")
        told[0][6] = 98
        told.append(told[0])
        self.assertEqual(encode_record(0, "a"), [piece(0, 1, 0, "a")])

    def test_a_disk_takes_them(self):
        disk = Disk(8)
        for at, block in enumerate(encode_record(300, text_of(150))):
            disk.write(at, block)
            self.assertEqual(disk.read(at), block)


class Decoding(unittest.TestCase):
    def check_none(self, block):
        before = list(block)
        self.assertIsNone(decode_piece(block), block)
        self.assertEqual(block, before)

    def check_piece(self, block, told):
        before = list(block)
        found = decode_piece(block)
        self.assertEqual(found, told)
        self.assertIs(type(found), tuple)
        self.assertEqual(block, before)

    def test_each_piece_of_a_record(self):
        for length in (0, 1, 23, 24, 25, 6120):
            for number in (0, 1, 255, 256, 65535):
                text = text_of(length)
                made = encode_record(number, text)
                for index, block in enumerate(made):
                    self.check_piece(block, (index, len(made), number, text[index * 24 : index * 24 + 24]))

    def test_every_character(self):
        for sign in SIGNS:
            self.check_piece(piece(0, 1, 3, sign), (0, 1, 3, sign))
        self.check_piece(piece(4, 5, 6, SIGNS[:24]), (4, 5, 6, SIGNS[:24]))

    def test_every_code(self):
        for code in range(256):
            block = piece(0, 1, 3, "ab")
            block[7] = code
            if code == 10 or 32 <= code <= 126 and code != 37:
                self.check_piece(block, (0, 1, 3, "a" + chr(code)))
            else:
                self.check_none(block)

    def test_one_byte_changed_at_each_place(self):
        good = piece(1, 3, 258, "abc")
        for at in range(32):
            for byte in range(256):
                block = list(good)
                block[at] = byte
                if at == 1 and byte < 3:
                    self.check_piece(block, (byte, 3, 258, "abc"))
                elif at == 2 and byte > 1:
                    self.check_piece(block, (1, byte, 258, "abc"))
                elif at == 3:
                    self.check_piece(block, (1, 3, 256 * byte + 2, "abc"))
                elif at == 4:
                    self.check_piece(block, (1, 3, 256 + byte, "abc"))
                elif 6 <= at <= 8 and chr(byte) in SIGNS:
                    text = "abc"[: at - 6] + chr(byte) + "abc"[at - 5 :]
                    self.check_piece(block, (1, 3, 258, text))
                elif byte == good[at]:
                    self.check_piece(block, (1, 3, 258, "abc"))
                else:
                    self.check_none(block)

    def test_the_count_tells_the_text(self):
        # With a smaller number the codes behind it are no zeros, with a greater one zeros are no codes.
        for count in range(256):
            block = piece(0, 1, 0, "abc")
            block[5] = count
            if count != 3:
                self.check_none(block)
        block = piece(0, 1, 0, "b" * 24)
        for count in range(24):
            block[5] = count
            self.check_none(block)
        for count in (25, 26, 27, 255):
            block[5] = count
            self.check_none(block)

    def test_a_count_of_25_with_a_code_where_the_zero_belongs(self):
        block = piece(0, 1, 0, "b" * 24)
        block[30] = 98
        self.check_none(block)
        block[5] = 25
        self.check_none(block)
        block[5] = 26
        self.check_none(block)

    def test_pieces_that_no_record_has(self):
        # They are pieces nevertheless: a short one before the last one, and an empty one beside others.
        self.check_piece(piece(0, 2, 0, "ab"), (0, 2, 0, "ab"))
        self.check_piece(piece(1, 2, 0, ""), (1, 2, 0, ""))
        self.check_piece(piece(254, 255, 0, "a"), (254, 255, 0, "a"))

    def test_other_blocks(self):
        self.check_none([0] * 32)
        self.check_none([76] * 32)
        self.check_none([255] * 32)
        self.check_none(piece(0, 0, 0, ""))
        self.check_none(piece(1, 1, 0, ""))
        self.check_none(piece(255, 255, 0, ""))


class Interface(unittest.TestCase):
    def test_the_functions_stand_in_their_file(self):
        for name, parameters in (("encode_record", ["number", "text"]), ("decode_piece", ["block"])):
            with self.subTest(name=name):
                made = getattr(blocks, name)
                self.assertEqual(made.__module__, "sameanswers.blocks")
                self.assertEqual(list(inspect.signature(made).parameters), parameters)


if __name__ == "__main__":
    unittest.main()
