"""Point 6, and points 2 and 3 as far as they speak of trees."""

import inspect
import itertools
import unittest

from sameanswers import trees
from sameanswers.errors import OutOfRange
from sameanswers.trees import Tree, paths_above, paths_under

# Rising paths: a slash comes before a digit, a digit before a letter, a string after its beginnings.
RISING = ("10", "9", "9a", "a/b/c", "a/b0", "a0", "ab/c", "b")
FULL = tuple([(f"n{k:02d}", (f"line {k}",)) for k in range(20)])
SAMPLE = (("src/a", ("x", "y")), ("src/b/c", ()), ("srcs", ("",)), ("z", ("x",)))


class TreeCase(unittest.TestCase):
    def check_refused(self, files):
        """Whatever the order, as a tuple and as a list."""
        orders = itertools.permutations(files) if len(files) <= 4 else (files, files[::-1])
        for order in orders:
            for made in (tuple(order), list(order)):
                with self.subTest(files=made):
                    before = list(made)
                    with self.assertRaises(OutOfRange) as held:
                        Tree(made)
                    self.assertEqual(held.exception.name, "files")
                    self.assertEqual(list(made), before)

    def check_taken(self, files):
        orders = itertools.permutations(files) if len(files) <= 4 else (files, files[::-1])
        for order in orders:
            for made in (tuple(order), list(order)):
                with self.subTest(files=made):
                    before = list(made)
                    self.assertEqual(Tree(made).files(), tuple(sorted(files)))
                    self.assertEqual(list(made), before)


class Making(TreeCase):
    def test_the_number(self):
        self.assertEqual(trees.FILES_MOST, 20)

    def test_no_files(self):
        for tree in (Tree(), Tree(()), Tree([])):
            self.assertEqual(tree.files(), ())
        self.assertEqual(inspect.signature(Tree).parameters["files"].default, ())
        self.assertEqual(Tree(files=[("a", ())]).files(), (("a", ()),))

    def test_files_in_any_order(self):
        self.check_taken(SAMPLE)
        self.check_taken((("a", ()),))
        self.check_taken(tuple([(path, (path,)) for path in RISING]))

    def test_paths_that_begin_alike_may_stand_side_by_side(self):
        pairs = (("a", "ab"), ("a/b", "ab/c"), ("a/b", "a/bc"), ("a/b/c", "a/b/cd"), ("b/a", "a"), ("a", "b/a/c"))
        for one, other in pairs:
            self.check_taken(((one, ()), (other, ("x",))))

    def test_at_most_20_files(self):
        self.check_taken(FULL[:19])
        self.check_taken(FULL)
        self.check_refused(FULL + (("a", ()),))
        self.check_refused(FULL + (("a", ()), ("b", ())))

    def test_no_path_twice(self):
        self.check_refused((("a", ("x",)), ("a", ("x",))))
        self.check_refused((("a", ("x",)), ("b", ()), ("a", ("y",))))
        self.check_refused((("a/b", ()), ("a/c", ()), ("a/b", ())))
        self.check_refused(FULL[:19] + (FULL[0],))

    def test_no_path_inside_another_one(self):
        for outer, inner in (("a", "a/b"), ("a", "a/b/c"), ("a/b", "a/b/c"), ("ab", "ab/a")):
            self.check_refused(((outer, ()), (inner, ())))
            self.check_refused(((outer, ("x",)), ("a0", ()), (inner, ()), ("zz", ())))

    def test_no_bad_path(self):
        bad = ("", "/", ".", "A", "a b", "a/", "/a", "a//b", "a/b/c/d", "abcdefghi", "a/abcdefghi", "a\n", 'a"', "a%")
        for path in bad:
            self.check_refused(((path, ()),))
            self.check_refused((("a0", ()), (path, ("x",)), ("zz", ())))

    def test_lines_within_their_bounds(self):
        self.check_taken((("a", ("x" * 20,) * 12), ("b", ("",) * 12), ("c", ()), ("d", (" !#$&'()*+,-./:;<=>?",))))

    def test_no_lines_out_of_their_bounds(self):
        for lines in (("",) * 13, ("x" * 21,), ("a", 'b"'), ("50%",), ("a\nb",), ("a", "\x7f"), ("\xe9",)):
            self.check_refused((("a", lines),))
            self.check_refused((("b", ("ok",)), ("a", lines), ("c", ())))

    def test_just_the_good_rows_of_some_files_are_taken(self):
        rows = (("a", ()), ("a/b", ("x",)), ("a/b/c", ()), ("ab", ()), ("ab/c", ()), ("a/bc", ()))
        rows += (("A", ()), ("ab", ("y" * 21,)))
        for many in range(4):
            for files in itertools.product(rows, repeat=many):
                names = [tuple(path.split("/")) for path, _ in files]
                apart = all(
                    names[k] != names[j][: len(names[k])] for k in range(many) for j in range(many) if k != j
                )
                good = apart and ("A", ()) not in files and rows[-1] not in files
                try:
                    told = Tree(files).files()
                except OutOfRange as error:
                    told = error.name
                self.assertEqual(told, tuple(sorted(files)) if good else "files", files)


class Asking(TreeCase):
    def test_files_and_lines_are_tuples(self):
        tree = Tree(list(SAMPLE))
        self.assertIs(type(tree.files()), tuple)
        for file in tree.files():
            self.assertIs(type(file), tuple)
            self.assertIs(type(file[1]), tuple)

    def test_files_come_by_rising_paths(self):
        tree = Tree([(path, ()) for path in ("b", "a0", "ab/c", "9a", "a/b0", "10", "a/b/c", "9")])
        self.assertEqual(tree.files(), tuple([(path, ()) for path in RISING]))

    def test_lines_of_a_file_or_none(self):
        tree = Tree(SAMPLE)
        self.assertEqual(tree.lines("src/a"), ("x", "y"))
        self.assertEqual(tree.lines("src/b/c"), ())
        self.assertEqual(tree.lines("srcs"), ("",))
        for path in ("src", "src/b", "src/a/b", "sr", "srcss", "a", "z/z"):
            with self.subTest(path=path):
                self.assertIsNone(tree.lines(path))
        self.assertIsNone(Tree().lines("a"))

    def test_paths_inside_a_place(self):
        tree = Tree([(path, ()) for path in ("b", "a0", "ab/c", "9a", "a/b0", "10", "a/b/c", "9", "a/b/a")])
        self.assertEqual(tree.paths(""), ("10", "9", "9a", "a/b/a", "a/b/c", "a/b0", "a0", "ab/c", "b"))
        self.assertEqual(tree.paths("a"), ("a/b/a", "a/b/c", "a/b0"))
        self.assertEqual(tree.paths("a/b"), ("a/b/a", "a/b/c"))
        self.assertEqual(tree.paths("ab"), ("ab/c",))
        for place in ("9", "b", "a/b/a", "a/b0", "a0", "c", "ab/c", "a/c", "c/ab"):
            with self.subTest(place=place):
                self.assertEqual(tree.paths(place), ())
        self.assertIs(type(tree.paths("a")), tuple)
        self.assertEqual(Tree().paths(""), ())

    def test_paths_under_a_place(self):
        tree = Tree([(path, ()) for path in ("b", "a0", "ab/c", "a/b0", "a/b/c", "a/b/a")])
        self.assertEqual(paths_under(tree, ""), ("a/b/a", "a/b/c", "a/b0", "a0", "ab/c", "b"))
        self.assertEqual(paths_under(tree, "a"), ("a/b/a", "a/b/c", "a/b0"))
        self.assertEqual(paths_under(tree, "b"), ("b",))
        self.assertEqual(paths_under(tree, "a/b/c"), ("a/b/c",))
        self.assertEqual(paths_under(tree, "c"), ())

    def test_paths_above_a_path(self):
        tree = Tree([(path, ()) for path in ("b", "a0", "a/b", "ab/c")])
        for path, above in (("b/a", ("b",)), ("b/a/c", ("b",)), ("a/b/c", ("a/b",)), ("a0/a", ("a0",))):
            self.assertEqual(paths_above(tree, path), above)
        for path in ("b", "a", "a/b", "a/c", "ba", "ab", "c/b"):
            self.assertEqual(paths_above(tree, path), ())

    def test_folders(self):
        tree = Tree(SAMPLE)
        for place in ("", "src", "src/b"):
            with self.subTest(place=place):
                self.assertIs(tree.is_folder(place), True)
        for place in ("src/a", "src/b/c", "srcs", "z", "sr", "a", "src/c", "b", "z/a", "src/b/c/d"):
            with self.subTest(place=place):
                self.assertIs(tree.is_folder(place), False)

    def test_the_root_is_a_folder_without_files_too(self):
        self.assertIs(Tree().is_folder(""), True)
        self.assertIs(Tree().is_folder("a"), False)

    def test_same_trees(self):
        self.assertIs(Tree().is_same(Tree([])), True)
        for order in itertools.permutations(SAMPLE):
            self.assertIs(Tree(SAMPLE).is_same(Tree(order)), True)
        tree = Tree(SAMPLE)
        self.assertIs(tree.is_same(tree), True)

    def test_trees_that_are_not_the_same(self):
        tree = Tree(SAMPLE)
        others = [SAMPLE[:3], SAMPLE + (("zz", ()),), (), SAMPLE[:3] + (("z", ("y",)),), SAMPLE[:3] + (("y", ("x",)),)]
        others += [SAMPLE[:3] + (("z", ()),), SAMPLE[:3] + (("z", ("x", "x")),)]
        for files in others:
            with self.subTest(files=files):
                self.assertIs(tree.is_same(Tree(files)), False)
                self.assertIs(Tree(files).is_same(tree), False)
        one = Tree([("a", ("x", "y")), ("b", ())])
        for files in ([("a", ("y", "x")), ("b", ())], [("b", ("x", "y")), ("a", ())], [("a", ("x", "y")), ("c", ())]):
            self.assertIs(one.is_same(Tree(files)), False)


class Changing(TreeCase):
    def test_with_a_new_path(self):
        tree = Tree(SAMPLE)
        made = tree.with_file("m", ("1", "2"))
        self.assertEqual(made.files(), tuple(sorted(SAMPLE + (("m", ("1", "2")),))))
        self.assertEqual(made.lines("m"), ("1", "2"))
        self.assertEqual(Tree().with_file("a/b", ()).files(), (("a/b", ()),))

    def test_in_place_of_a_file(self):
        tree = Tree(SAMPLE)
        made = tree.with_file("src/a", ("new",))
        self.assertEqual(made.files(), (("src/a", ("new",)),) + SAMPLE[1:])
        self.assertTrue(tree.with_file("src/a", ("x", "y")).is_same(tree))

    def test_a_file_more_is_seen_by_all_questions(self):
        made = Tree(SAMPLE).with_file("m/n", ("x",)).with_file("a", ())
        self.assertEqual(made.paths(""), ("a", "m/n", "src/a", "src/b/c", "srcs", "z"))
        self.assertEqual(made.paths("m"), ("m/n",))
        self.assertIs(made.is_folder("m"), True)
        self.assertIs(made.is_same(Tree((("m/n", ("x",)), ("a", ())) + SAMPLE)), True)

    def test_without_a_file(self):
        tree = Tree(SAMPLE)
        made = tree.without("src/b/c")
        self.assertEqual(made.files(), (SAMPLE[0],) + SAMPLE[2:])
        self.assertIsNone(made.lines("src/b/c"))
        self.assertIs(made.is_folder("src/b"), False)
        self.assertIs(made.is_folder("src"), True)
        self.assertEqual(Tree([("a", ())]).without("a").files(), ())

    def test_the_tree_itself_stays_as_it_is(self):
        tree = Tree(SAMPLE)
        for made in (tree.with_file("m", ()), tree.with_file("src/a", ()), tree.without("z"), tree.without("src/a")):
            self.assertIsInstance(made, Tree)
            self.assertIsNot(made, tree)
            self.assertFalse(made.is_same(tree))
            self.assertEqual(tree.files(), SAMPLE)
            self.assertEqual(tree.lines("src/a"), ("x", "y"))
            self.assertEqual(tree.paths("src"), ("src/a", "src/b/c"))

    def test_what_is_made_does_not_change_with_later_trees(self):
        first = Tree(SAMPLE).with_file("m", ("1",))
        files = first.files()
        first.with_file("m", ("2",)).without("z")
        first.without("m")
        self.assertEqual(first.files(), files)

    def test_there_and_back(self):
        tree = Tree(SAMPLE)
        self.assertTrue(tree.with_file("m", ()).without("m").is_same(tree))
        self.assertTrue(tree.without("z").with_file("z", ("x",)).is_same(tree))

    def test_the_caller_sees_to_the_bounds(self):
        self.assertEqual(len(Tree(FULL).with_file("a", ()).files()), 21)
        self.assertEqual(Tree(FULL).with_file("n00", ("y",)).lines("n00"), ("y",))
        self.assertEqual(Tree([("a", ())]).with_file("a/b", ()).paths(""), ("a", "a/b"))
        self.assertEqual(Tree().with_file("a", ("x" * 21,) * 13).lines("a"), ("x" * 21,) * 13)
        self.assertEqual(len(Tree(FULL).with_file("a", ()).without("n00").files()), 20)
        self.assertEqual(len(Tree(FULL).with_file("a", ()).with_file("b", ()).without("n00").files()), 21)

    def test_a_list_that_was_passed_and_changed_later_has_no_effect(self):
        files = list(SAMPLE)
        tree = Tree(files)
        made = tree.with_file("m", ())
        files[0] = ("q", ("new",))
        files.append(("r", ()))
        files.pop(1)
        self.assertEqual(tree.files(), SAMPLE)
        self.assertEqual(made.without("m").files(), SAMPLE)
        files.clear()
        self.assertEqual(tree.files(), SAMPLE)
        self.assertEqual(Tree(files).files(), ())


class Interface(unittest.TestCase):
    def test_the_class_and_its_methods_stand_in_their_file(self):
        self.assertEqual(Tree.__module__, "sameanswers.trees")
        listed = {
            "__init__": ["self", "files"],
            "files": ["self"],
            "lines": ["self", "path"],
            "paths": ["self", "place"],
            "is_folder": ["self", "place"],
            "with_file": ["self", "path", "lines"],
            "without": ["self", "path"],
            "is_same": ["self", "other"],
        }
        for name, parameters in listed.items():
            with self.subTest(name=name):
                self.assertIn(name, vars(Tree))
                self.assertEqual(list(inspect.signature(vars(Tree)[name]).parameters), parameters)


if __name__ == "__main__":
    unittest.main()
