"""Texts as records on a disk: pieces of 24 characters, each in a block that tells to what it belongs."""

from sameanswers.errors import OutOfRange
from sameanswers.paths import PERCENT

PIECE = 24
PIECES_MOST = 255

# The first and the last byte of a block that is a piece.
MARK = 76

FIRST_CODE = 32
LAST_CODE = 126
NEWLINE = 10
# The characters by their codes, from the first one on. A blank holds the place of the percent sign, which no text has.
SIGNS = " !\"#$ &'()*+,-./0123456789:;<=>?@ABCDEFGHIJKLMNOPQRSTUVWXYZ[\\]^_`abcdefghijklmnopqrstuvwxyz{|}~"


def count_pieces(text):
    """How many pieces the text has: the empty one has one, too."""
    return max(1, (len(text) + PIECE - 1) // PIECE)


def encode_piece(index, many, number, text):
    """The block of one piece of a record."""
    codes = [ord(sign) for sign in text]
    # One zero more than the codes leave free, which makes up the size of a block.
    zeros = [0] * (PIECE - len(codes) + 1)
    return [MARK, index, many, number // 256, number & 255, len(codes), *codes, *zeros, MARK]


def encode_record(number, text):
    """The blocks of the text as the record with this number."""
    many = count_pieces(text)
    if many > PIECES_MOST:
        raise OutOfRange("text")
    pieces = [text[k * PIECE : (k + 1) * PIECE] for k in range(many)]
    return [encode_piece(index, many, number, piece) for index, piece in enumerate(pieces)]


def is_code(code):
    """Whether the number is the code of a character that a text may have."""
    return code == NEWLINE or (FIRST_CODE <= code <= LAST_CODE and code != PERCENT)


def sign_of(code):
    """The character with this code."""
    return "\n" if code == NEWLINE else SIGNS[code - FIRST_CODE]


def decode_piece(block):
    """The index, the number of pieces, the record's number and the text of a piece; None if the block is none."""
    mark, index, many, high, low, count, *rest = block
    if mark != MARK or rest[-1] != MARK or index >= many or count > PIECE:
        return None
    codes = rest[:count]
    if not all([is_code(code) for code in codes]) or any([byte != 0 for byte in rest[count:-1]]):
        return None
    return index, many, high * 256 + low, "".join([sign_of(code) for code in codes])
