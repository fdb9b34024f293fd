"""Points 7 to 10: what actions answer and leave; and the bounds of their items (points 4, 5, 8 and 9)."""

import inspect
import unittest

from sameanswers import actions
from sameanswers.actions import act, check_action, is_question, places_of
from sameanswers.errors import OutOfRange
from sameanswers.trees import Tree
from tests.samples import FULL, all_actions, all_trees, inside

NONE = ("none",)
DONE = ("done",)
BLOCKED = ("blocked",)
MISSING = ("missing",)
FILES = (
    ("a0", ("",)),
    ("docs/a", ("one x", "two", "x x")),
    ("docs/a0", ()),
    ("docs/b/c", ("x",)),
    ("docs/b/d", ("two", "xx")),
    ("docs0/a", ("one",)),
    ("e/f/g", ("y",)),
)
TWELVE = tuple([f"line {k}" for k in range(12)])


def with_file(files, path, lines):
    return tuple(sorted([row for row in files if row[0] != path] + [(path, lines)]))


def without(files, path):
    return tuple([row for row in files if row[0] != path])


class ActCase(unittest.TestCase):
    def check_act(self, files, action, answer, left=None):
        """Left are the files afterwards, None if the action leaves everything as it was."""
        with self.subTest(action=action):
            tree = Tree(files)
            told, after = act(tree, action)
            self.assertEqual(told, answer)
            self.assertIs(type(told), tuple)
            self.assertIsInstance(after, Tree)
            self.assertEqual(after.files(), tuple(sorted(files if left is None else left)))
            self.assertEqual(tree.files(), tuple(sorted(files)))


class Kinds(unittest.TestCase):
    def test_the_words(self):
        self.assertEqual(actions.QUESTIONS, ("read", "kind", "list", "find", "count"))
        self.assertEqual(actions.DEEDS, ("write", "remove", "move", "splice"))

    def test_questions_and_deeds(self):
        rows = (("read", "a"), ("kind", ""), ("list", "a"), ("find", "a", "x"), ("count", ""))
        for action in rows:
            self.assertIs(is_question(action), True, action)
        rows = (("write", "a", ()), ("remove", "a"), ("move", "a", "b"), ("splice", "a", ("x",), ()))
        for action in rows:
            self.assertIs(is_question(action), False, action)

    def test_what_is_asked_alters_nothing(self):
        tree = Tree(FILES)
        for action in all_actions():
            if is_question(action):
                _, left = act(tree, action)
                self.assertIs(left.is_same(tree), True, action)

    def test_an_answer_that_is_not_done_leaves_everything(self):
        for tree in all_trees(2):
            for action in all_actions():
                answer, left = act(tree, action)
                if answer != DONE:
                    self.assertIs(left.is_same(tree), True, action)


class Questions(ActCase):
    def test_read(self):
        self.check_act(FILES, ("read", "docs/a"), ("lines", ("one x", "two", "x x")))
        self.check_act(FILES, ("read", "docs/a0"), ("lines", ()))
        self.check_act(FILES, ("read", "a0"), ("lines", ("",)))
        for path in ("docs", "docs/b", "doc", "a", "a0/b", "docs/a/b", "docs/c", "z"):
            self.check_act(FILES, ("read", path), NONE)

    def test_kind(self):
        for place in ("a0", "docs/a", "docs/a0", "docs/b/c"):
            self.check_act(FILES, ("kind", place), ("file",))
        for place in ("", "docs", "docs/b", "docs0", "e", "e/f"):
            self.check_act(FILES, ("kind", place), ("folder",))
        for place in ("a", "doc", "docs/c", "docs/a/b", "a0/b/c", "docs/b/cd"):
            self.check_act(FILES, ("kind", place), NONE)
        self.check_act((), ("kind", ""), ("folder",))
        self.check_act((), ("kind", "a"), NONE)

    def test_list(self):
        self.check_act(FILES, ("list", ""), ("names", ("a0", "docs/", "docs0/", "e/")))
        self.check_act(FILES, ("list", "docs"), ("names", ("a", "a0", "b/")))
        self.check_act(FILES, ("list", "docs/b"), ("names", ("c", "d")))
        self.check_act(FILES, ("list", "e"), ("names", ("f/",)))
        self.check_act(FILES, ("list", "e/f"), ("names", ("g",)))
        for place in ("a0", "docs/a", "docs/b/c", "a", "doc", "docs/c", "docs/a/b"):
            self.check_act(FILES, ("list", place), NONE)
        self.check_act((), ("list", ""), ("names", ()))
        self.check_act((), ("list", "a"), NONE)

    def test_the_names_rise(self):
        files = tuple([(path, ()) for path in ("b", "a/z", "a0", "ab", "9", "a/b/c", "10/x")])
        self.check_act(files, ("list", ""), ("names", ("10/", "9", "a/", "a0", "ab", "b")))
        self.check_act(files, ("list", "a"), ("names", ("b/", "z")))

    def test_find(self):
        rows = (("docs/a", 0), ("docs/a", 2), ("docs/b/c", 0), ("docs/b/d", 1))
        self.check_act(FILES, ("find", "", "x"), ("found", rows))
        self.check_act(FILES, ("find", "docs", "x"), ("found", rows))
        self.check_act(FILES, ("find", "docs/b", "x"), ("found", rows[2:]))
        self.check_act(FILES, ("find", "docs/b", "xx"), ("found", rows[3:]))
        self.check_act(FILES, ("find", "docs/a", "x"), ("found", rows[:2]))
        self.check_act(FILES, ("find", "docs/a", "x x"), ("found", rows[1:2]))
        self.check_act(FILES, ("find", "", "one"), ("found", (("docs/a", 0), ("docs0/a", 0))))
        self.check_act(FILES, ("find", "docs", "two"), ("found", (("docs/a", 1), ("docs/b/d", 0))))
        self.check_act(FILES, ("find", "docs0", " "), ("found", ()))

    def test_find_where_nothing_occurs(self):
        for place in ("", "docs", "docs/a", "docs/a0", "a0"):
            self.check_act(FILES, ("find", place, "q"), ("found", ()))
        for place in ("a", "doc", "docs/c", "docs/a/b", "a0/a"):
            self.check_act(FILES, ("find", place, "x"), NONE)
        self.check_act((), ("find", "", "x"), ("found", ()))
        self.check_act((), ("find", "a", "x"), NONE)

    def test_find_does_not_join_lines(self):
        files = (("a", ("ab", "cd")), ("ab/a", ("abcd", "bcd")))
        self.check_act(files, ("find", "", "bc"), ("found", (("ab/a", 0), ("ab/a", 1))))

    def test_find_names_the_indexes_as_numbers_that_rise(self):
        files = (("a", ("x",) * 12), ("b", TWELVE))
        self.check_act(files, ("find", "a", "x"), ("found", tuple([("a", k) for k in range(12)])))
        self.check_act(files, ("find", "", "line 1"), ("found", (("b", 1), ("b", 10), ("b", 11))))

    def test_count(self):
        for place, many in (("", 7), ("docs", 4), ("docs/b", 2), ("docs0", 1), ("e", 1), ("e/f", 1)):
            self.check_act(FILES, ("count", place), ("many", many))
        for place in ("a0", "docs/a", "docs/b/c", "a", "doc", "docs/c"):
            self.check_act(FILES, ("count", place), NONE)
        self.check_act((), ("count", ""), ("many", 0))
        self.check_act(FULL, ("count", ""), ("many", 20))


class Writes(ActCase):
    def test_a_new_file(self):
        for path in ("z", "docs/c", "docs/b/e", "doc", "new/a/b", "e/f/h", "a"):
            self.check_act(FILES, ("write", path, ("1", "2")), DONE, with_file(FILES, path, ("1", "2")))
        self.check_act((), ("write", "a/b", ()), DONE, (("a/b", ()),))

    def test_a_file_that_is_there(self):
        for path in ("a0", "docs/a", "docs/b/c"):
            for lines in ((), ("new",), TWELVE):
                self.check_act(FILES, ("write", path, lines), DONE, with_file(FILES, path, lines))

    def test_the_same_once_more(self):
        self.check_act(FILES, ("write", "docs/a", ("one x", "two", "x x")), DONE, FILES)

    def test_files_inside_the_path(self):
        for path in ("docs", "docs/b", "docs0", "e", "e/f"):
            self.check_act(FILES, ("write", path, ("1",)), BLOCKED)

    def test_inside_the_path_of_a_file(self):
        for path in ("a0/b", "a0/b/c", "docs/a/b", "docs/a0/b"):
            self.check_act(FILES, ("write", path, ()), BLOCKED)

    def test_20_files(self):
        self.check_act(FULL[:19], ("write", "a", ("x",)), DONE, FULL[:19] + (("a", ("x",)),))
        self.check_act(FULL, ("write", "a", ("x",)), ("full",))
        self.check_act(FULL, ("write", "n07", ("x",)), DONE, with_file(FULL, "n07", ("x",)))

    def test_blocked_comes_before_full(self):
        self.check_act(FULL, ("write", "n07/a", ()), BLOCKED)
        files = FULL[:19] + (("a/b", ()),)
        self.check_act(files, ("write", "a", ()), BLOCKED)
        self.check_act(files, ("write", "a/c", ()), ("full",))


class Removes(ActCase):
    def test_a_file(self):
        for path in ("a0", "docs/a0", "docs/b/c", "e/f/g"):
            self.check_act(FILES, ("remove", path), DONE, without(FILES, path))
        self.check_act((("a", ("x",)),), ("remove", "a"), DONE, ())

    def test_a_folder_and_nothing(self):
        for path in ("docs", "docs/b", "e", "z", "docs/a/b", "doc"):
            self.check_act(FILES, ("remove", path), MISSING)
        self.check_act((), ("remove", "a"), MISSING)


class Moves(ActCase):
    def check_moved(self, files, path, target):
        lines = dict(files)[path]
        self.check_act(files, ("move", path, target), DONE, with_file(without(files, path), target, lines))

    def test_to_a_free_path(self):
        for path in ("a0", "docs/a", "docs/b/c"):
            for target in ("z", "docs/z", "docs/b/z", "y/z", "docs0/b"):
                self.check_moved(FILES, path, target)

    def test_of_a_folder_and_of_nothing(self):
        for path in ("docs", "docs/b", "z", "docs/a/b"):
            for target in ("new", path, "a0", "docs"):
                self.check_act(FILES, ("move", path, target), MISSING)

    def test_to_its_own_path(self):
        for path in ("a0", "docs/a", "e/f/g"):
            self.check_act(FILES, ("move", path, path), DONE, FILES)

    def test_to_another_file(self):
        for path, target in (("a0", "docs/a"), ("docs/a", "docs/a0"), ("docs/a0", "docs/a"), ("e/f/g", "a0")):
            self.check_act(FILES, ("move", path, target), BLOCKED)

    def test_to_a_folder(self):
        for path, target in (("a0", "docs"), ("a0", "e/f"), ("docs/a", "docs"), ("docs/b/c", "docs/b")):
            self.check_act(FILES, ("move", path, target), BLOCKED)

    def test_inside_another_file(self):
        for path, target in (("docs/a", "a0/b"), ("docs/a", "docs/a0/b"), ("a0", "docs/a/b"), ("e/f/g", "a0/b/c")):
            self.check_act(FILES, ("move", path, target), BLOCKED)

    def test_inside_its_own_path(self):
        for path, target in (("a0", "a0/b"), ("a0", "a0/b/c"), ("docs/a", "docs/a/b")):
            self.check_moved(FILES, path, target)

    def test_above_its_own_path(self):
        for target in ("e", "e/f"):
            self.check_moved(FILES, "e/f/g", target)
        self.check_moved(FILES, "docs0/a", "docs0")

    def test_20_files(self):
        self.check_moved(FULL, "n07", "a")
        self.check_moved(FULL, "n07", "n07/a")
        self.check_act(FULL, ("move", "n07", "n08"), BLOCKED)


class Splices(ActCase):
    def check_spliced(self, lines, old, new, left):
        files = (("a", lines), ("b", ("x", "y")))
        self.check_act(files, ("splice", "a", old, new), DONE, (("a", left), files[1]))

    def test_lines_that_stand_once(self):
        lines = ("1", "2", "3")
        self.check_spliced(lines, ("1",), ("n",), ("n", "2", "3"))
        self.check_spliced(lines, ("2",), ("n", "m"), ("1", "n", "m", "3"))
        self.check_spliced(lines, ("3",), (), ("1", "2"))
        self.check_spliced(lines, ("1", "2"), ("n",), ("n", "3"))
        self.check_spliced(lines, ("2", "3"), ("3", "2"), ("1", "3", "2"))
        self.check_spliced(lines, ("1", "2", "3"), (), ())
        self.check_spliced(("1", "1", "2"), ("1", "2"), ("n",), ("1", "n"))
        self.check_spliced(("", "1"), ("",), ("n", ""), ("n", "", "1"))

    def test_the_same_in_its_place(self):
        self.check_spliced(("1", "2"), ("2",), ("2",), ("1", "2"))

    def test_of_a_folder_and_of_nothing(self):
        for path in ("docs", "docs/b", "z", "docs/a/b"):
            self.check_act(FILES, ("splice", path, ("two",), ()), MISSING)

    def test_lines_that_stand_nowhere(self):
        files = (("a", ("1", "2", "3")), ("b", ("4", "5")), ("c", ()))
        for old in (("4",), ("1", "3"), ("2", "1"), ("1", "2", "3", "4"), ("3", "4"), ("",), ("1", ""), ("12",)):
            self.check_act(files, ("splice", "a", old, ("n",)), ("absent",))
        self.check_act(files, ("splice", "c", ("",), ()), ("absent",))

    def test_a_line_is_a_whole_one(self):
        self.check_act((("a", ("one two",)),), ("splice", "a", ("one",), ()), ("absent",))

    def test_lines_that_stand_twice(self):
        files = (("a", ("1", "2", "1", "2")), ("b", ("1", "1")), ("c", ("1",) * 12))
        for path, old in (("a", ("1",)), ("a", ("2",)), ("a", ("1", "2")), ("b", ("1",)), ("c", ("1",) * 11)):
            self.check_act(files, ("splice", path, old, ()), ("ambiguous",))

    def test_lines_that_stand_twice_and_overlap(self):
        for lines, old in ((("1",) * 3, ("1",) * 2), (("1", "2", "1", "2", "1"), ("1", "2", "1"))):
            self.check_act((("a", lines),), ("splice", "a", old, ("n",)), ("ambiguous",))

    def test_12_and_13_lines(self):
        self.check_spliced(TWELVE[:11], ("line 5",), ("n", "m"), TWELVE[:5] + ("n", "m") + TWELVE[6:11])
        self.check_spliced(TWELVE, ("line 5",), ("n",), TWELVE[:5] + ("n",) + TWELVE[6:])
        self.check_spliced(TWELVE, TWELVE, TWELVE[::-1], TWELVE[::-1])
        files = (("a", TWELVE), ("b", ("x",) * 11 + ("y",)), ("c", ("x", "y")))
        self.check_act(files, ("splice", "a", ("line 5",), ("n", "m")), ("long",))
        self.check_act(files, ("splice", "a", ("line 5", "line 6"), ("n", "m", "o")), ("long",))
        self.check_act(files, ("splice", "b", ("y",), ("y", "z")), ("long",))
        self.check_act(files, ("splice", "c", ("x",), TWELVE), ("long",))
        self.check_act(files, ("splice", "a", ("line 5",), ("n",) * 12), ("long",))

    def test_the_order_of_the_answers(self):
        files = (("a", ("x",) * 12),)
        self.check_act(files, ("splice", "a", ("y",), ("n",) * 12), ("absent",))
        self.check_act(files, ("splice", "a", ("x",), ("n",) * 12), ("ambiguous",))
        self.check_act(files, ("splice", "b", ("x",), ("n",) * 12), MISSING)


class Examples(ActCase):
    FILES = (("src/a", ("x", "y")), ("src/b/c", ()))

    def test_the_questions_of_point_10(self):
        self.check_act(self.FILES, ("list", "src"), ("names", ("a", "b/")))
        self.check_act(self.FILES, ("kind", "src/b"), ("folder",))
        self.check_act(self.FILES, ("find", "", "y"), ("found", (("src/a", 1),)))

    def test_the_deeds_of_point_10(self):
        self.check_act(self.FILES, ("write", "src", ("z",)), BLOCKED)
        answer, tree = act(Tree(self.FILES), ("splice", "src/a", ("y",), ("z", "z")))
        self.assertEqual(answer, DONE)
        self.assertEqual(tree.files(), (("src/a", ("x", "z", "z")), ("src/b/c", ())))
        answer, after = act(tree, ("splice", "src/a", ("z",), ()))
        self.assertEqual(answer, ("ambiguous",))
        self.assertIs(after.is_same(tree), True)


def said_question(files, word, place, words=()):
    """Point 8 once more, file by file: the answer to a question."""
    within = [path for path in sorted(files) if path == place or inside(path, place)]
    behind = [path for path in within if path != place]
    is_folder = place == "" or len(behind) > 0
    if word == "read":
        return ("lines", files[place]) if place in files else NONE
    if word == "kind":
        return ("file",) if place in files else ("folder",) if is_folder else NONE
    if word == "find" and (within or is_folder):
        return ("found", tuple([(path, k) for path in within for k, line in enumerate(files[path]) if words in line]))
    if word == "count" and is_folder:
        return ("many", len(behind))
    if word == "list" and is_folder:
        deep = len(place.split("/")) if place else 0
        rows = [path.split("/")[deep:] for path in behind]
        return ("names", tuple(sorted({row[0] if len(row) == 1 else row[0] + "/" for row in rows})))
    return NONE


def said_deed(files, word, path, *items):
    """Point 9 once more: the answer, and the files that are left if the deed is done."""
    others = {other: files[other] for other in files if other != path}
    if word != "write" and path not in files:
        return MISSING, None
    if word == "remove":
        return DONE, others
    if word == "splice":
        old, new = items
        lines = files[path]
        ends = [k for k in range(len(lines) + 1) if k >= len(old) and lines[k - len(old) : k] == old]
        if len(ends) != 1:
            return (("ambiguous",) if ends else ("absent",)), None
        return DONE, {**others, path: lines[: ends[0] - len(old)] + new + lines[ends[0] :]}
    target, lines = (path, items[0]) if word == "write" else (items[0], files[path])
    if any(other == target or inside(other, target) or inside(target, other) for other in others):
        return BLOCKED, None
    return DONE, {**others, target: lines}


class AsSaid(unittest.TestCase):
    def test_all_actions_on_all_small_trees(self):
        for tree in all_trees():
            files = dict(tree.files())
            for action in all_actions():
                if is_question(action):
                    answer, left = said_question(files, *action), None
                else:
                    answer, left = said_deed(files, *action)
                told, after = act(tree, action)
                self.assertEqual(told, answer, (tree.files(), action))
                self.assertEqual(dict(after.files()), files if left is None else left, (tree.files(), action))


class Places(unittest.TestCase):
    def check_places(self, lines, part, places):
        with self.subTest(lines=lines, part=part):
            told = places_of(tuple(lines), tuple(part))
            self.assertEqual(told, places)
            self.assertIs(type(told), list)

    def test_none_one_and_several(self):
        self.check_places("abc", "a", [0])
        self.check_places("abc", "c", [2])
        self.check_places("abc", "bc", [1])
        self.check_places("abc", "abc", [0])
        self.check_places("abcab", "ab", [0, 3])
        for part in ("d", "ac", "ba", "abcd", "cd", "da"):
            self.check_places("abc", part, [])
        self.check_places("", "a", [])
        self.check_places(("ab", "c"), ("a",), [])

    def test_places_that_overlap(self):
        self.check_places("aaaa", "aa", [0, 1, 2])
        self.check_places("aaaa", "aaa", [0, 1])
        self.check_places("abababa", "aba", [0, 2, 4])
        self.check_places("a" * 12, "a", list(range(12)))

    def test_each_list_is_a_new_one(self):
        lines = ("a", "a")
        told = places_of(lines, ("a",))
        told.append(7)
        self.assertEqual(places_of(lines, ("a",)), [0, 1])
        self.assertEqual(lines, ("a", "a"))


GOOD_PATHS = ("a", "abcdefgh", "a/b/c", "12345678/z9/abcdefgh")
BAD_PATHS = ("", "/", "a/", "/a", "a//b", "A", "a b", ".", "abcdefghi", "a/b/c/d", "a\n", "a%", "a/abcdefghi")
GOOD_WORDS = ("a", "x" * 12, " ", "~", "!#$&")
BAD_WORDS = ("", "x" * 13, 'a"', '"', "a\n", "50%")
GOOD_LINES = ((), ("",), ("x" * 20,) * 12, ("a", " ", "~"))
BAD_LINES = (("x" * 21,), ("a",) * 13, ("ok", 'a"'), ("a\nb", "ok"), ("50%",), ("a", "x" * 21, "b"))


class Bounds(unittest.TestCase):
    def check_good(self, action):
        with self.subTest(action=action):
            self.assertIsNone(check_action(action))
            answer, _ = act(Tree(), action)
            self.assertIs(type(answer), tuple)

    def check_bad(self, action, name):
        tree = Tree(FILES)
        for call in (lambda: check_action(action), lambda: act(tree, action)):
            with self.subTest(action=action):
                with self.assertRaises(OutOfRange) as held:
                    call()
                self.assertEqual(held.exception.name, name)
        self.assertEqual(tree.files(), FILES)

    def test_paths(self):
        for made in (
            lambda path: ("read", path),
            lambda path: ("write", path, ()),
            lambda path: ("remove", path),
            lambda path: ("move", path, "a"),
            lambda path: ("splice", path, ("x",), ()),
        ):
            for path in GOOD_PATHS:
                self.check_good(made(path))
            for path in BAD_PATHS:
                self.check_bad(made(path), "path")

    def test_places(self):
        for made in (
            lambda place: ("kind", place),
            lambda place: ("list", place),
            lambda place: ("find", place, "x"),
            lambda place: ("count", place),
        ):
            for place in GOOD_PATHS + ("",):
                self.check_good(made(place))
            for place in BAD_PATHS:
                if place != "":
                    self.check_bad(made(place), "place")

    def test_targets(self):
        for path in GOOD_PATHS:
            self.check_good(("move", "a", path))
        for path in BAD_PATHS:
            self.check_bad(("move", "a", path), "target")

    def test_words(self):
        for word in GOOD_WORDS:
            self.check_good(("find", "", word))
        for word in BAD_WORDS:
            self.check_bad(("find", "", word), "word")

    def test_lines_of_a_write(self):
        for lines in GOOD_LINES:
            self.check_good(("write", "a", lines))
        for lines in BAD_LINES:
            self.check_bad(("write", "a", lines), "lines")

    def test_lines_of_a_splice(self):
        for lines in GOOD_LINES[1:]:
            self.check_good(("splice", "a", lines, ()))
        for lines in GOOD_LINES:
            self.check_good(("splice", "a", ("x",), lines))
        for lines in BAD_LINES:
            self.check_bad(("splice", "a", lines, ()), "old")
            self.check_bad(("splice", "a", ("x",), lines), "new")

    def test_old_is_not_empty(self):
        self.check_bad(("splice", "a", (), ("x",)), "old")
        self.check_bad(("splice", "a", (), ()), "old")

    def test_the_first_bad_item_is_named(self):
        self.check_bad(("find", "a/", ""), "place")
        self.check_bad(("write", "A", ("x" * 21,)), "path")
        self.check_bad(("move", "a/", "/a"), "path")
        self.check_bad(("splice", "", (), ("x",) * 13), "path")
        self.check_bad(("splice", "a", (), ("x",) * 13), "old")
        self.check_bad(("splice", "a/", ("x",), ("x",) * 13), "path")
        self.check_bad(("splice", "a/", (), ()), "path")

    def test_what_would_be_missing_or_blocked_is_refused_first(self):
        self.check_bad(("splice", "nothing", (), ()), "old")
        self.check_bad(("move", "nothing", ""), "target")
        self.check_bad(("write", "docs", ("x" * 21,)), "lines")


class Interface(unittest.TestCase):
    def test_the_functions_stand_in_their_file(self):
        listed = {"is_question": ["action"], "check_action": ["action"], "act": ["tree", "action"]}
        listed["places_of"] = ["lines", "part"]
        for name, parameters in listed.items():
            with self.subTest(name=name):
                made = getattr(actions, name)
                self.assertEqual(made.__module__, "sameanswers.actions")
                self.assertEqual(list(inspect.signature(made).parameters), parameters)


if __name__ == "__main__":
    unittest.main()
