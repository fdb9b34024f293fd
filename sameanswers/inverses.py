"""The inverse of a journal: the actions that take its deeds back."""

from sameanswers.actions import act, places_of
from sameanswers.errors import NotHeld
from sameanswers.journals import holds


def is_once(lines, part):
    """Whether the part is not empty and stands at exactly one index in lines."""
    return len(part) > 0 and len(places_of(lines, part)) == 1


def put_back(path, lines):
    """The actions after which the file has these lines, or is not there if they are None."""
    deed = ("remove", path) if lines is None else ("write", path, lines)
    return (("read", path), deed)


def undoing(deed, before, after):
    """The actions that take back a deed, which was done on the tree before and left the tree after."""
    word, path = deed[0], deed[1]
    if word == "move":
        return (("move", deed[2], path),)
    if word == "splice" and is_once(after.lines(path), deed[3]):
        return (("splice", path, deed[3], deed[2]),)
    return put_back(path, before.lines(path))


def inverse(journal, tree):
    """The actions that take the deeds of the journal back, which were done on the tree: the last one first."""
    if not holds(journal, tree):
        raise NotHeld("the journal does not hold on the tree")
    back = ()
    for action, answer in journal:
        _, left = act(tree, action)
        if answer == ("done",):
            back = undoing(action, tree, left) + back
        tree = left
    return back
