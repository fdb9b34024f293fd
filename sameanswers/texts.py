"""Actions written as text, and read back: a text is split into tokens as a whole, then they are read one by one."""

from sameanswers.actions import PARTS
from sameanswers.errors import OutOfRange, TextFault
from sameanswers.paths import LINES_MOST, is_line, is_path, is_word

TEXT_MOST = 8000

# The root is the empty string, which could not be seen in a text.
ROOT = "."
BRACKETS = "()[]"
# What ends a word token, besides the end of its row.
STOPS = ' "()[]'


def write_quoted(text):
    """A line or a word as text."""
    return '"' + text + '"'


def write_part(name, item):
    """An item of an action as text; its name tells what it is."""
    if name in ("path", "target"):
        return item
    if name == "place":
        return ROOT if item == "" else item
    if name == "word":
        return write_quoted(item)
    return "[" + " ".join([write_quoted(line) for line in item]) + "]"


def write_action(action):
    """One action as text."""
    word, *items = action
    parts = [write_part(name, item) for name, item in zip(PARTS[word], items)]
    return "(" + " ".join([word, *parts]) + ")"


def write_actions(actions):
    """The actions as text, one in a line."""
    return "".join([write_action(action) + "\n" for action in actions])


def token_at(row, at, line):
    """The token (kind, text, line, column) that begins at this index of a row, and the index behind it."""
    if row[at] in BRACKETS:
        return ("bracket", row[at], line, at + 1), at + 1
    if row[at] == '"':
        close = row.find('"', at + 1)
        if close < 0:
            raise TextFault(line, len(row) + 1, "text is not closed")
        return ("quoted", row[at + 1 : close], line, at + 1), close + 1
    end = at
    while end < len(row) and row[end] not in STOPS:
        end += 1
    return ("word", row[at:end], line, at + 1), end


def split_row(row, line):
    """The tokens of a row of a text; line is its number."""
    tokens = []
    at = 0
    while at < len(row):
        if row[at] == " ":
            at += 1
        else:
            token, at = token_at(row, at, line)
            tokens.append(token)
    return tokens


def split_text(text):
    """The tokens of a text, and behind them one of the kind end, where a missing token would stand."""
    rows = text.split("\n")
    tokens = []
    for line, row in enumerate(rows, start=1):
        tokens.extend(split_row(row, line))
    tokens.append(("end", "", len(rows), len(rows[-1]) + 1))
    return tokens


class Reader:
    """Goes through the tokens of a text, from the first one up to its end."""

    def __init__(self, text):
        self._tokens = split_text(text)
        self._at = 0

    def is_at(self, kind, text):
        """Whether the next token is this one."""
        return self._tokens[self._at][:2] == (kind, text)

    def refuse(self, words):
        """Raises the fault with these words at the next token."""
        _, _, line, column = self._tokens[self._at]
        raise TextFault(line, column, words)

    def expect(self, kind, is_right, words):
        """Refuses the next token with these words, if it is not of this kind and right."""
        found, text, _, _ = self._tokens[self._at]
        if found != kind or not is_right(text):
            self.refuse(words)

    def go_on(self):
        """The text of the next token; the one behind it is the next one then."""
        _, text, _, _ = self._tokens[self._at]
        self._at += 1
        return text

    def take(self, kind, is_right, words):
        """The text of the next token, which is expected so; goes on behind it."""
        self.expect(kind, is_right, words)
        return self.go_on()

    def take_bracket(self, sign):
        """Goes on behind this bracket, which is expected."""
        self.take("bracket", lambda text: text == sign, f"expected {sign}")


def is_action_word(text):
    """Whether an action begins with this word."""
    return text in PARTS


def is_written_place(text):
    """Whether the text is a place as places are written."""
    return text == ROOT or is_path(text)


def read_lines(reader, least):
    """Lines in brackets; at least so many are needed."""
    reader.take_bracket("[")
    lines = []
    while len(lines) < least or not reader.is_at("bracket", "]"):
        reader.expect("quoted", is_line, "expected a line")
        if len(lines) == LINES_MOST:
            reader.refuse("too many lines")
        lines.append(reader.go_on())
    reader.take_bracket("]")
    return tuple(lines)


def read_part(reader, name):
    """An item of an action; its name tells what is expected."""
    if name in ("path", "target"):
        return reader.take("word", is_path, "expected a path")
    if name == "place":
        place = reader.take("word", is_written_place, "expected a place")
        return "" if place == ROOT else place
    if name == "word":
        return reader.take("quoted", is_word, "expected a word")
    return read_lines(reader, 1 if name == "old" else 0)


def read_action(reader):
    """One action."""
    reader.take_bracket("(")
    word = reader.take("word", is_action_word, "expected an action")
    items = []
    for name in PARTS[word]:
        items.append(read_part(reader, name))
    reader.take_bracket(")")
    return (word, *items)


def read_actions(text):
    """The actions that the text is a row of."""
    if len(text) > TEXT_MOST:
        raise OutOfRange("text")
    reader = Reader(text)
    actions = []
    while not reader.is_at("end", ""):
        actions.append(read_action(reader))
    return tuple(actions)
