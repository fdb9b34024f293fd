"""Names, paths, places, lines and words: which texts are one, and which path lies inside which place."""

NAME_MOST = 8
DEPTH_MOST = 3
LINE_MOST = 20
LINES_MOST = 12
WORD_MOST = 12

NAME_SIGNS = "abcdefghijklmnopqrstuvwxyz0123456789"
# The percent sign is given by its code, since no string of the program may contain it.
PERCENT = 37


def is_name(text):
    """Whether the text is a name: 1 to 8 characters, each a letter from a to z or a digit."""
    return 1 <= len(text) <= NAME_MOST and all([sign in NAME_SIGNS for sign in text])


def is_path(text):
    """Whether the text is a path: 1 to 3 names with one slash between neighbours."""
    names = text.split("/")
    return len(names) <= DEPTH_MOST and all([is_name(name) for name in names])


def is_place(text):
    """Whether the text is a place: a path, or the empty string, which is the root."""
    return text == "" or is_path(text)


def is_line_sign(sign):
    """Whether the character may stand in a line or a word."""
    return " " <= sign <= "~" and sign != '"' and ord(sign) != PERCENT


def is_line(text):
    """Whether the text is a line: at most 20 characters that may stand in a line."""
    return len(text) <= LINE_MOST and all([is_line_sign(sign) for sign in text])


def is_word(text):
    """Whether the text is a word: 1 to 12 characters that may stand in a line."""
    return 1 <= len(text) <= WORD_MOST and all([is_line_sign(sign) for sign in text])


def is_lines(lines):
    """Whether these are the lines of a file: at most 12, each a line."""
    return len(lines) <= LINES_MOST and all([is_line(line) for line in lines])


def is_inside(path, place):
    """Whether the path lies inside the place: in the root every path does."""
    return place == "" or path.startswith(place + "/")
