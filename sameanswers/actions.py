"""Actions on a tree: their bounds, what each kind of them answers, and what it leaves."""

from sameanswers.errors import OutOfRange
from sameanswers.paths import LINES_MOST, is_lines, is_path, is_place, is_word
from sameanswers.trees import FILES_MOST, paths_above, paths_under

QUESTIONS = ("read", "kind", "list", "find", "count")
DEEDS = ("write", "remove", "move", "splice")

# The names of the items that follow the word of an action, in their order.
PARTS = {
    "read": ("path",),
    "kind": ("place",),
    "list": ("place",),
    "find": ("place", "word"),
    "count": ("place",),
    "write": ("path", "lines"),
    "remove": ("path",),
    "move": ("path", "target"),
    "splice": ("path", "old", "new"),
}


def is_question(action):
    """Whether the action is a question, which leaves the tree as it is."""
    return action[0] in QUESTIONS


def is_within(name, item):
    """Whether an item of this name is within its bounds."""
    if name == "place":
        return is_place(item)
    if name == "word":
        return is_word(item)
    if name in ("path", "target"):
        return is_path(item)
    return is_lines(item) and (name != "old" or len(item) > 0)


def check_action(action):
    """Raises OutOfRange with the name of the first item that is out of its bounds."""
    for name, item in zip(PARTS[action[0]], action[1:]):
        if not is_within(name, item):
            raise OutOfRange(name)


def places_of(lines, part):
    """The indexes at which the lines part stand in lines, one directly after the other."""
    many = len(part)
    return [at for at in range(len(lines) - many + 1) if lines[at : at + many] == part]


def answer_read(tree, path):
    """The lines of a file."""
    lines = tree.lines(path)
    return ("none",) if lines is None else ("lines", lines)


def answer_kind(tree, place):
    """Whether there is a file, a folder or nothing."""
    if tree.lines(place) is not None:
        return ("file",)
    return ("folder",) if tree.is_folder(place) else ("none",)


def first_name(path):
    """The first name of a path, with a slash behind it if the path goes on."""
    name, slash, _ = path.partition("/")
    return name + slash


def answer_list(tree, place):
    """The first names behind a folder."""
    if not tree.is_folder(place):
        return ("none",)
    start = 0 if place == "" else len(place) + 1
    return ("names", tuple(sorted({first_name(path[start:]) for path in tree.paths(place)})))


def answer_find(tree, place, word):
    """Where the word occurs in a file or in the files of a folder."""
    paths = paths_under(tree, place)
    if len(paths) == 0 and not tree.is_folder(place):
        return ("none",)
    rows = [(path, at) for path in paths for at, line in enumerate(tree.lines(path)) if word in line]
    return ("found", tuple(rows))


def answer_count(tree, place):
    """How many files lie inside a folder."""
    return ("many", len(tree.paths(place))) if tree.is_folder(place) else ("none",)


def do_write(tree, path, lines):
    """The answer and the tree, if the file with this path shall have these lines."""
    if len(tree.paths(path)) > 0 or len(paths_above(tree, path)) > 0:
        return ("blocked",), tree
    if tree.lines(path) is None and len(tree.paths("")) >= FILES_MOST:
        return ("full",), tree
    return ("done",), tree.with_file(path, lines)


def do_remove(tree, path):
    """The answer and the tree, if the file shall be removed."""
    if tree.lines(path) is None:
        return ("missing",), tree
    return ("done",), tree.without(path)


def do_move(tree, path, target):
    """The answer and the tree, if the file shall have the path target."""
    lines = tree.lines(path)
    if lines is None:
        return ("missing",), tree
    # The file is not in its own way: it may move to a place inside or above its own path.
    rest = tree.without(path)
    if len(paths_under(rest, target)) > 0 or len(paths_above(rest, target)) > 0:
        return ("blocked",), tree
    return ("done",), rest.with_file(target, lines)


def do_splice(tree, path, old, new):
    """The answer and the tree, if the lines new shall stand in place of the lines old."""
    lines = tree.lines(path)
    if lines is None:
        return ("missing",), tree
    places = places_of(lines, old)
    if len(places) == 0:
        return ("absent",), tree
    if len(places) > 1:
        return ("ambiguous",), tree
    left = lines[: places[0]] + new + lines[places[0] + len(old) :]
    if len(left) > LINES_MOST:
        return ("long",), tree
    return ("done",), tree.with_file(path, left)


ANSWERS = {
    "read": answer_read,
    "kind": answer_kind,
    "list": answer_list,
    "find": answer_find,
    "count": answer_count,
}
DOINGS = {
    "write": do_write,
    "remove": do_remove,
    "move": do_move,
    "splice": do_splice,
}


def act(tree, action):
    """The answer of the action on the tree, and the tree that it leaves."""
    check_action(action)
    word, *items = action
    if is_question(action):
        ask = ANSWERS[word]
        return ask(tree, *items), tree
    do = DOINGS[word]
    return do(tree, *items)
