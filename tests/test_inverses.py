"""Point 24: the inverse of a journal takes its deeds back, the last one first."""

import inspect
import unittest

from sameanswers import inverses
from sameanswers.actions import check_action
from sameanswers.errors import NotHeld
from sameanswers.inverses import inverse
from sameanswers.journals import run
from sameanswers.trees import Tree
from tests.samples import FULL, all_trees, some_rows

FILES = (("a", ("1", "2", "3")), ("d/b", ("x", "x")), ("d/c/e", ()))
TWELVE = tuple([str(k) for k in range(12)])


class InverseCase(unittest.TestCase):
    def check_inverse(self, actions, back, files=FILES):
        """The inverse of the journal of these actions, and that it leads back."""
        with self.subTest(actions=actions):
            tree = Tree(files)
            journal, left = run(tree, actions)
            told = inverse(journal, tree)
            self.assertEqual(told, tuple(back))
            self.assertIs(type(told), tuple)
            self.assertEqual(run(left, told)[1].files(), tuple(sorted(files)))
            self.assertEqual(tree.files(), tuple(sorted(files)))


class Rows(InverseCase):
    def test_a_write_of_a_path_that_had_no_file(self):
        for path in ("z", "d/z", "d/c/z"):
            self.check_inverse([("write", path, ("n",))], [("read", path), ("remove", path)])
        self.check_inverse([("write", "a", ())], [("read", "a"), ("remove", "a")], ())

    def test_a_write_of_a_path_that_had_a_file(self):
        for path, old in FILES:
            self.check_inverse([("write", path, ("n", "m"))], [("read", path), ("write", path, old)])

    def test_a_write_of_the_same_lines(self):
        self.check_inverse([("write", "a", ("1", "2", "3"))], [("read", "a"), ("write", "a", ("1", "2", "3"))])

    def test_a_remove(self):
        for path, old in FILES:
            self.check_inverse([("remove", path)], [("read", path), ("write", path, old)])

    def test_a_move(self):
        for path, target in (("a", "z"), ("d/b", "a0/b"), ("d/c/e", "d/c"), ("a", "a/b"), ("a", "a")):
            self.check_inverse([("move", path, target)], [("move", target, path)])

    def test_a_splice_whose_new_lines_stand_once(self):
        for old, new in (
            (("2",), ("n",)),
            (("2",), ("n", "m")),
            (("1", "2", "3"), ("n",)),
            (("2", "3"), ("3", "2")),
            (("2",), ("2",)),
            (("2",), ("3", "1")),
            (("3",), ("3", "3")),
        ):
            self.check_inverse([("splice", "a", old, new)], [("splice", "a", new, old)])

    def test_a_splice_whose_new_lines_stand_twice(self):
        for old, new in ((("2",), ("1",)), (("2",), ("3",)), (("2", "3"), ("1",)), (("1",), ("2",))):
            back = [("read", "a"), ("write", "a", ("1", "2", "3"))]
            self.check_inverse([("splice", "a", old, new)], back)

    def test_a_splice_whose_new_lines_stand_twice_and_overlap(self):
        files = (("a", ("1", "2", "1")),)
        back = [("read", "a"), ("write", "a", ("1", "2", "1"))]
        self.check_inverse([("splice", "a", ("2",), ("1", "1"))], back, files)
        self.check_inverse([("splice", "a", ("2", "1"), ("1", "1"))], back, files)
        self.check_inverse([("splice", "a", ("2",), ("1", "1"))], [("read", "a"), ("write", "a", ("1", "2", "3"))])

    def test_a_splice_without_new_lines(self):
        self.check_inverse([("splice", "a", ("2",), ())], [("read", "a"), ("write", "a", ("1", "2", "3"))])
        self.check_inverse([("splice", "a", ("1", "2", "3"), ())], [("read", "a"), ("write", "a", ("1", "2", "3"))])

    def test_a_splice_up_to_12_lines(self):
        files = (("a", TWELVE),)
        self.check_inverse([("splice", "a", ("3", "4"), ("n",))], [("splice", "a", ("n",), ("3", "4"))], files)
        self.check_inverse([("splice", "a", TWELVE, ("n",))], [("splice", "a", ("n",), TWELVE)], files)
        self.check_inverse([("splice", "a", ("n",), TWELVE)], [("splice", "a", TWELVE, ("n",))], (("a", ("n",)),))

    def test_questions_have_none(self):
        questions = [("read", "a"), ("read", "z"), ("kind", "a"), ("list", ""), ("find", "", "x"), ("count", "d")]
        self.check_inverse(questions, [])
        self.check_inverse([], [])

    def test_deeds_that_were_not_done_have_none(self):
        self.check_inverse([("write", "d", ()), ("write", "a/b", ())], [])
        self.check_inverse([("write", "z", ())], [], FULL)
        self.check_inverse([("remove", "z"), ("move", "z", "y"), ("splice", "z", ("x",), ())], [])
        self.check_inverse([("move", "a", "d"), ("move", "a", "d/b")], [])
        self.check_inverse([("splice", "a", ("x",), ()), ("splice", "d/b", ("x",), ())], [])
        self.check_inverse([("splice", "a", ("2",), TWELVE)], [])


class Orders(InverseCase):
    def test_the_last_deed_comes_first(self):
        actions = [("write", "z", ("n",)), ("read", "z"), ("move", "a", "y"), ("remove", "d/b"), ("remove", "q")]
        back = [("read", "d/b"), ("write", "d/b", ("x", "x")), ("move", "y", "a"), ("read", "z"), ("remove", "z")]
        self.check_inverse(actions, back)

    def test_each_deed_is_taken_back_to_the_tree_before_it(self):
        actions = [("write", "a", ("n",)), ("write", "a", ("m",)), ("splice", "a", ("m",), ("o",)), ("remove", "a")]
        actions.append(("write", "a", ()))
        back = [("read", "a"), ("remove", "a"), ("read", "a"), ("write", "a", ("o",)), ("splice", "a", ("o",), ("m",))]
        back += [("read", "a"), ("write", "a", ("n",)), ("read", "a"), ("write", "a", ("1", "2", "3"))]
        self.check_inverse(actions, back)

    def test_a_file_that_goes_round(self):
        actions = [("move", "a", "t"), ("move", "d/b", "a"), ("move", "t", "d/b"), ("write", "a/b", ())]
        self.check_inverse(actions, [("move", "d/b", "t"), ("move", "a", "d/b"), ("move", "t", "a")])

    def test_with_20_files(self):
        actions = [("remove", "n07"), ("write", "z", ()), ("write", "y", ()), ("move", "n08", "n07")]
        back = [("move", "n07", "n08"), ("read", "z"), ("remove", "z"), ("read", "n07"), ("write", "n07", ("line 7",))]
        self.check_inverse(actions, back, FULL)

    def test_more_actions_than_the_journal_of_a_session_has(self):
        actions = [("write", f"n{k}", ()) for k in range(20)] + [("remove", f"n{k}") for k in range(20)]
        back = []
        for k in range(19, -1, -1):
            back += [("read", f"n{k}"), ("write", f"n{k}", ())]
        for k in range(19, -1, -1):
            back += [("read", f"n{k}"), ("remove", f"n{k}")]
        self.check_inverse(actions, back, ())

    def test_it_leads_back_on_small_trees(self):
        trees = all_trees()
        for at, actions in enumerate(some_rows(150, 8)):
            for tree in trees[at % 5 :: 5]:
                journal, left = run(tree, actions)
                back = inverse(journal, tree)
                for action in back:
                    self.assertIsNone(check_action(action))
                again, end = run(left, back)
                self.assertIs(end.is_same(tree), True, (tree.files(), actions))
                for action, answer in again:
                    if action[0] != "read":
                        self.assertEqual(answer, ("done",), (tree.files(), actions))


class Holding(unittest.TestCase):
    def check_not_held(self, journal, files):
        tree = Tree(files)
        with self.assertRaises(NotHeld):
            inverse(journal, tree)
        self.assertEqual(tree.files(), tuple(sorted(files)))

    def test_a_journal_that_does_not_hold(self):
        journal, left = run(Tree(FILES), [("remove", "a"), ("read", "d/b")])
        self.check_not_held(journal, left.files())
        self.check_not_held(journal, FILES[1:])
        self.check_not_held(journal, FILES[:1])
        self.check_not_held(journal, FILES[:1] + (("d/b", ("y",)),))

    def test_of_questions_only(self):
        self.check_not_held(((("read", "a"), ("none",)),), FILES)

    def test_of_deeds_that_were_not_done(self):
        self.check_not_held(((("remove", "a"), ("missing",)),), FILES)
        self.check_not_held(((("remove", "a"), ("missing",)), (("remove", "z"), ("missing",))), FILES)

    def test_a_journal_that_holds_on_another_tree(self):
        journal, _ = run(Tree(FILES), [("write", "a", ("n",)), ("splice", "d/b", ("x", "x"), ("y",))])
        tree = Tree((("a", ("other",)), ("d/b", ("0", "x", "x"))))
        back = (("splice", "d/b", ("y",), ("x", "x")), ("read", "a"), ("write", "a", ("other",)))
        self.assertEqual(inverse(journal, tree), back)


class Interface(unittest.TestCase):
    def test_the_function_stands_in_its_file(self):
        self.assertEqual(inverses.inverse.__module__, "sameanswers.inverses")
        self.assertEqual(list(inspect.signature(inverses.inverse).parameters), ["journal", "tree"])


if __name__ == "__main__":
    unittest.main()
