"""A small world for the tests: all trees over a few paths, many actions on them, and rows of such actions."""

import itertools

from sameanswers.trees import Tree

PATHS = ("a", "a/b", "a/b/c", "a/d", "e")
PLACES = ("",) + PATHS
ROWS = ((), ("x",), ("x", "y", "x"))
SPLICES = (
    (("x",), ("z",)),
    (("x",), ()),
    (("y",), ("x",)),
    (("x", "y"), ("y", "x")),
    (("x",), ("x",)),
)
FULL = tuple([(f"n{k:02d}", (f"line {k}",)) for k in range(20)])


def inside(path, place):
    """Point 4, name by name."""
    names = path.split("/")
    outer = place.split("/") if place else []
    return len(outer) < len(names) and names[: len(outer)] == outer


def all_trees(most=3):
    """All trees of at most so many of the paths, with all of the rows of lines."""
    made = []
    for many in range(most + 1):
        for paths in itertools.combinations(PATHS, many):
            if not any(inside(one, other) for one in paths for other in paths):
                for rows in itertools.product(ROWS, repeat=many):
                    made.append(Tree(list(zip(paths, rows))))
    return made


def all_actions():
    made = [("read", path) for path in PATHS]
    made += [(word, place) for word in ("kind", "list", "count") for place in PLACES]
    made += [("find", place, word) for place in PLACES for word in ("x", "y")]
    made += [("write", path, lines) for path in PATHS for lines in (("x",), ("y", "z"))]
    made += [("remove", path) for path in PATHS]
    made += [("move", path, target) for path in PATHS for target in PATHS]
    made += [("splice", path, old, new) for path in PATHS for old, new in SPLICES]
    return made


def some_rows(many, most):
    """So many rows of 1 to most actions, drawn always in the same way."""
    actions = all_actions()
    deeds = [action for action in actions if action[0] in ("write", "remove", "move", "splice")]
    state = 1
    rows = []
    for _ in range(many):
        row = []
        state = state * 1103515245 + 12345 & 0x7FFFFFFF
        for _ in range(1 + (state >> 16) % most):
            state = state * 1103515245 + 12345 & 0x7FFFFFFF
            # Every other action is a deed, since most deeds have no effect on a small tree.
            pool = deeds if state >> 9 & 1 else actions
            row.append(pool[(state >> 12) % len(pool)])
        rows.append(tuple(row))
    return rows
