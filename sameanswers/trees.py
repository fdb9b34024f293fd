"""Trees of files, which never change: what another tree is to hold is put into a new one."""

from sameanswers.errors import OutOfRange
from sameanswers.paths import is_inside, is_lines, is_path

FILES_MOST = 20


def are_apart(paths):
    """Whether the paths are different ones, of which none lies inside another one."""
    if len(set(paths)) < len(paths):
        return False
    return not any([is_inside(path, place) for path in paths for place in paths])


def are_files(files):
    """Whether the files may be together in a tree."""
    if len(files) > FILES_MOST:
        return False
    if not all([is_path(path) and is_lines(lines) for path, lines in files]):
        return False
    return are_apart([path for path, _ in files])


class Tree:
    """At most 20 files with different paths, of which none lies inside another one."""

    def __init__(self, files=()):
        if not are_files(files):
            raise OutOfRange("files")
        self._table = {path: tuple(lines) for path, lines in files}

    def files(self):
        """The tuple of the files by rising paths."""
        return tuple([(path, self._table[path]) for path in sorted(self._table)])

    def lines(self, path):
        """The lines of the file with this path, or None if there is none."""
        return self._table.get(path)

    def paths(self, place):
        """The rising tuple of the paths that lie inside the place."""
        return tuple([path for path in sorted(self._table) if is_inside(path, place)])

    def is_folder(self, place):
        """Whether the place is the root, or files lie inside it."""
        return place == "" or len(self.paths(place)) > 0

    def with_file(self, path, lines):
        """A new tree with this file, in place of one with this path; the caller sees to the bounds."""
        table = dict(self._table)
        table[path] = tuple(lines)
        return tree_of(table)

    def without(self, path):
        """A new tree without the file with this path."""
        return tree_of({kept: self._table[kept] for kept in self._table if kept != path})

    def is_same(self, other):
        """Whether the other tree has the same files."""
        return self._table == other._table


def tree_of(table):
    """The tree with these lines of paths. Tree(files) is not used, since it raises beyond the bounds."""
    tree = Tree()
    tree._table = table
    return tree


def paths_under(tree, place):
    """The rising tuple of the paths that are the place or lie inside it."""
    own = () if tree.lines(place) is None else (place,)
    return own + tree.paths(place)


def paths_above(tree, path):
    """The rising tuple of the paths inside which the path lies."""
    return tuple([place for place in tree.paths("") if is_inside(path, place)])
