"""Points 22 and 23: the feet of a journal, their stand on a tree, and what the stand decides."""

import inspect
import unittest

# The file under another name, since it has a function of its own name.
from sameanswers import feet as feet_file
from sameanswers.actions import act
from sameanswers.feet import feet, stand
from sameanswers.journals import first_change, run
from sameanswers.trees import Tree
from tests.samples import FULL, all_trees, some_rows

DONE = ("done",)
FILES = (("a", ("x", "y")), ("d/b", ("x",)), ("d/c/e", ()), ("d0", ("xx",)))


def journal_of(*actions):
    return tuple([(action, DONE) for action in actions])


class Feet(unittest.TestCase):
    def check_feet(self, actions, *told):
        with self.subTest(actions=actions):
            made = feet(journal_of(*actions))
            self.assertEqual(made, told)
            self.assertIs(type(made), tuple)

    def test_of_each_kind_of_action(self):
        self.check_feet([("read", "a/b")], ("read", "a/b"))
        self.check_feet([("remove", "a/b")], ("read", "a/b"))
        self.check_feet([("splice", "a/b", ("x",), ("y",))], ("read", "a/b"))
        for word in ("kind", "list", "count"):
            self.check_feet([(word, "a/b")], ("under", "a/b"))
            self.check_feet([(word, "")], ("under", ""))
        self.check_feet([("find", "a", "x")], ("find", "a", "x"), ("under", "a"))
        self.check_feet([("find", "", "x")], ("find", "", "x"), ("under", ""))
        self.check_feet([("write", "a/b", ("x",))], ("above", "a/b"), ("total",), ("under", "a/b"))
        self.check_feet([("move", "a", "b/c")], ("above", "b/c"), ("read", "a"), ("under", "b/c"))
        self.check_feet([("move", "a", "a")], ("above", "a"), ("read", "a"), ("under", "a"))

    def test_of_no_actions(self):
        self.check_feet([])

    def test_they_rise(self):
        actions = [("write", "b", ()), ("read", "c"), ("find", "c", "z"), ("find", "", "y")]
        self.check_feet(
            actions + [("read", "a"), ("find", "c", "a")],
            ("above", "b"),
            ("find", "", "y"),
            ("find", "c", "a"),
            ("find", "c", "z"),
            ("read", "a"),
            ("read", "c"),
            ("total",),
            ("under", ""),
            ("under", "b"),
            ("under", "c"),
        )
        rising = [("read", path) for path in ("a", "a/b", "a0", "b")]
        self.check_feet(rising[::-1], *rising)

    def test_each_once(self):
        self.check_feet([("read", "a"), ("remove", "a"), ("splice", "a", ("x",), ()), ("read", "a")], ("read", "a"))
        self.check_feet([("kind", "a"), ("list", "a"), ("count", "a"), ("kind", "a")], ("under", "a"))
        self.check_feet(
            [("write", "a", ()), ("write", "b", ("x",)), ("write", "a", ("y",))],
            ("above", "a"),
            ("above", "b"),
            ("total",),
            ("under", "a"),
            ("under", "b"),
        )

    def test_the_answers_do_not_matter(self):
        for answer in (DONE, ("blocked",), ("missing",)):
            journal = ((("move", "a", "b"), answer), (("write", "a", ()), answer))
            told = ("above", "a"), ("above", "b"), ("read", "a"), ("total",), ("under", "a"), ("under", "b")
            self.assertEqual(feet(journal), told)


class Stand(unittest.TestCase):
    def check_stand(self, foot, answer, files=FILES):
        with self.subTest(foot=foot):
            tree = Tree(files)
            told = stand((foot,), tree)
            self.assertEqual(told, (answer,))
            self.assertIs(type(told), tuple)
            self.assertIs(type(told[0]), type(answer))
            self.assertEqual(tree.files(), files)

    def test_read(self):
        self.check_stand(("read", "a"), ("lines", ("x", "y")))
        self.check_stand(("read", "d/c/e"), ("lines", ()))
        for path in ("d", "b", "d/c", "a/b"):
            self.check_stand(("read", path), ("none",))

    def test_find(self):
        self.check_stand(("find", "", "x"), ("found", (("a", 0), ("d/b", 0), ("d0", 0))))
        self.check_stand(("find", "d", "x"), ("found", (("d/b", 0),)))
        self.check_stand(("find", "a", "y"), ("found", (("a", 1),)))
        self.check_stand(("find", "d", "y"), ("found", ()))
        self.check_stand(("find", "b", "x"), ("none",))

    def test_under(self):
        self.check_stand(("under", ""), ("a", "d/b", "d/c/e", "d0"))
        self.check_stand(("under", "d"), ("d/b", "d/c/e"))
        self.check_stand(("under", "d/c"), ("d/c/e",))
        self.check_stand(("under", "a"), ("a",))
        self.check_stand(("under", "d/c/e"), ("d/c/e",))
        for place in ("b", "a/b", "d/e", "d00"):
            self.check_stand(("under", place), ())
        self.check_stand(("under", ""), (), ())

    def test_above(self):
        self.check_stand(("above", "a/b"), ("a",))
        self.check_stand(("above", "a/b/c"), ("a",))
        self.check_stand(("above", "d/b/x"), ("d/b",))
        for path in ("a", "d", "d/b", "d/c/e", "d/x", "aa/b", "b/a"):
            self.check_stand(("above", path), ())

    def test_total(self):
        self.check_stand(("total",), 4)
        self.check_stand(("total",), 0, ())
        self.check_stand(("total",), 20, FULL)

    def test_paths_like_the_words_of_feet(self):
        files = (("above", ("x",)), ("total", ("t",)), ("under/read", ()))
        self.check_stand(("read", "total"), ("lines", ("t",)), files)
        self.check_stand(("under", "total"), ("total",), files)
        self.check_stand(("under", "under"), ("under/read",), files)
        self.check_stand(("above", "above/total"), ("above",), files)
        self.check_stand(("find", "total", "total"), ("found", ()), files)
        self.check_stand(("find", "above", "under"), ("found", ()), files)

    def test_in_their_order(self):
        rows = (("total",), ("read", "b"), ("under", "d"), ("above", "a/b"), ("total",), ("find", "a", "y"))
        answers = (4, ("none",), ("d/b", "d/c/e"), ("a",), 4, ("found", (("a", 1),)))
        self.assertEqual(stand(rows, Tree(FILES)), answers)
        self.assertEqual(stand(rows[::-1], Tree(FILES)), answers[::-1])
        self.assertEqual(stand((), Tree(FILES)), ())


class Deciding(unittest.TestCase):
    """Point 23, on pairs of trees."""

    def check_same(self, journal, one, other):
        one, other = Tree(one), Tree(other)
        self.assertEqual(stand(feet(journal), one), stand(feet(journal), other))
        self.assertIs(one.is_same(other), False)
        self.assertEqual(first_change(journal, one), first_change(journal, other))

    def check_other(self, journal, one, other):
        one, other = Tree(one), Tree(other)
        self.assertNotEqual(first_change(journal, one), first_change(journal, other))
        self.assertNotEqual(stand(feet(journal), one), stand(feet(journal), other))

    def test_trees_that_differ_elsewhere(self):
        journal, _ = run(Tree(FILES), [("read", "a"), ("splice", "a", ("x",), ()), ("remove", "a"), ("count", "d")])
        self.check_same(journal, FILES, FILES + (("z", ()),))
        self.check_same(journal, FILES, FILES[:3])
        self.check_same(journal, FILES, FILES[:2] + (("d/c/e", ("new",)), ("d0", ())))
        self.check_same(journal, FILES[1:], FILES[1:] + (("z", ()),))

    def test_a_write_and_how_many_files_there_are(self):
        journal, _ = run(Tree(FULL[:19]), [("write", "a", ())])
        self.check_same(journal, FULL[:19], FULL[1:])
        self.check_other(journal, FULL[:19], FULL)
        journal, _ = run(Tree(FULL), [("write", "a", ())])
        self.check_same(journal, FULL, FULL[1:] + (("z", ()),))
        self.check_other(journal, FULL, FULL[1:])

    def test_a_write_that_is_blocked(self):
        journal, _ = run(Tree(FILES), [("write", "d", ()), ("write", "a/b", ())])
        self.check_same(journal, FILES, (("a", ()), ("d/b", ()), ("d/c/e", ("q",)), ("z", ())))
        self.check_other(journal, FILES, FILES[:1] + (("z", ()),))
        self.check_other(journal, FILES, FILES[1:] + (("z", ()),))

    def test_a_move(self):
        journal, _ = run(Tree(FILES), [("move", "a", "z/a"), ("read", "z/a")])
        self.check_same(journal, FILES, FILES[:1])
        self.check_other(journal, FILES, FILES + (("z", ()),))
        self.check_other(journal, FILES, FILES + (("z/a/b", ()),))
        self.check_other(journal, FILES, (("a", ("x",)),) + FILES[1:])

    def test_all_small_trees_with_the_same_stand(self):
        trees = all_trees()
        again = 0
        for at, actions in enumerate(some_rows(120, 4)):
            journal, _ = run(trees[at * 7 % len(trees)], actions)
            known = {}
            for tree in trees:
                there = stand(feet(journal), tree)
                told = (first_change(journal, tree), left_by_deeds(journal, tree))
                again += there in known
                self.assertEqual(known.setdefault(there, told), told, (journal, tree.files()))
        # The rows would say nothing if no two of the trees had the same stand.
        self.assertGreater(again, 1000)


def left_by_deeds(journal, tree):
    """The lines at the paths that the done deeds name, after each of them; None if the journal does not hold."""
    left = []
    for action, answer in journal:
        told, tree = act(tree, action)
        if told != answer:
            return None
        if told == DONE:
            paths = action[1:3] if action[0] == "move" else action[1:2]
            left.append([tree.lines(path) for path in paths])
    return left


class Interface(unittest.TestCase):
    def test_the_functions_stand_in_their_file(self):
        for name, parameters in (("feet", ["journal"]), ("stand", ["feet", "tree"])):
            with self.subTest(name=name):
                made = getattr(feet_file, name)
                self.assertEqual(made.__module__, "sameanswers.feet")
                self.assertEqual(list(inspect.signature(made).parameters), parameters)


if __name__ == "__main__":
    unittest.main()
