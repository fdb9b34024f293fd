"""Points 14 and 15: journals of actions, whether they hold, their first change, and where they lead."""

import inspect
import unittest

from sameanswers import journals
from sameanswers.actions import act
from sameanswers.errors import OutOfRange
from sameanswers.journals import first_change, holds, lead, run
from sameanswers.trees import Tree
from tests.samples import all_trees, some_rows

FILES = (("src/a", ("x", "y")), ("src/b/c", ()))
ACTIONS = (
    ("read", "src/a"),
    ("splice", "src/a", ("y",), ("z", "z")),
    ("read", "src/a"),
    ("splice", "src/a", ("z",), ()),
    ("remove", "src/b/c"),
    ("count", "src"),
)
JOURNAL = (
    (("read", "src/a"), ("lines", ("x", "y"))),
    (("splice", "src/a", ("y",), ("z", "z")), ("done",)),
    (("read", "src/a"), ("lines", ("x", "z", "z"))),
    (("splice", "src/a", ("z",), ()), ("ambiguous",)),
    (("remove", "src/b/c"), ("done",)),
    (("count", "src"), ("many", 1)),
)
LEFT = (("src/a", ("x", "z", "z")),)
# Files other than FILES, and the first change there.
CHANGES = (
    ((("src/a", ("y", "x")), ("src/b/c", ())), (0, ("lines", ("y", "x")))),
    ((), (0, ("none",))),
    ((("src/a", ("x", "y")),), (4, ("missing",))),
    ((("src/a", ("x", "y")), ("src/b/c", ()), ("src/d", ())), (5, ("many", 2))),
)


class Running(unittest.TestCase):
    def test_each_action_is_applied_to_what_the_ones_before_left(self):
        for actions in (ACTIONS, list(ACTIONS)):
            tree = Tree(FILES)
            journal, left = run(tree, actions)
            self.assertEqual(journal, JOURNAL)
            self.assertEqual(left.files(), LEFT)
            self.assertEqual(tree.files(), FILES)

    def test_no_actions(self):
        for actions in ((), []):
            tree = Tree(FILES)
            journal, left = run(tree, actions)
            self.assertEqual(journal, ())
            self.assertIs(left.is_same(tree), True)

    def test_a_journal_is_a_tuple_of_pairs(self):
        told = run(Tree(FILES), list(ACTIONS))
        self.assertIs(type(told), tuple)
        self.assertIs(type(told[0]), tuple)
        for entry in told[0]:
            self.assertIs(type(entry), tuple)
            self.assertEqual(len(entry), 2)

    def test_more_actions_than_the_journal_of_a_session_has(self):
        journal, left = run(Tree(), [("write", "a", (str(k),)) for k in range(60)])
        self.assertEqual(len(journal), 60)
        self.assertEqual(left.files(), (("a", ("59",)),))

    def test_what_is_passed_stays_as_it_is(self):
        actions = list(ACTIONS)
        journal, _ = run(Tree(FILES), actions)
        self.assertEqual(actions, list(ACTIONS))
        actions.clear()
        self.assertEqual(journal, JOURNAL)

    def test_an_action_out_of_its_bounds(self):
        for bad, name in ((("read", ""), "path"), (("kind", "/"), "place"), (("splice", "a", (), ()), "old")):
            tree = Tree(FILES)
            with self.assertRaises(OutOfRange) as held:
                run(tree, [("remove", "src/a"), bad])
            self.assertEqual(held.exception.name, name)
            self.assertEqual(tree.files(), FILES)

    def test_it_is_as_act_one_by_one(self):
        trees = all_trees(2)
        for at, actions in enumerate(some_rows(100, 8)):
            tree = trees[at % len(trees)]
            journal, left = run(tree, actions)
            self.assertEqual([action for action, _ in journal], list(actions))
            for action, answer in journal:
                told, tree = act(tree, action)
                self.assertEqual(told, answer)
            self.assertIs(left.is_same(tree), True)


class Holding(unittest.TestCase):
    def test_where_it_was_made(self):
        tree = Tree(FILES)
        self.assertIsNone(first_change(JOURNAL, tree))
        self.assertIs(holds(JOURNAL, tree), True)
        self.assertEqual(tree.files(), FILES)

    def test_on_other_trees_with_the_same_answers(self):
        other = (("src/a", ("x", "y")), ("src/b/c", ("q",)))
        for files in (FILES + (("a", ("x",)),), FILES + (("srcs/a", ()), ("b", ("z",))), other):
            with self.subTest(files=files):
                self.assertIsNone(first_change(JOURNAL, Tree(files)))
                self.assertIs(holds(JOURNAL, Tree(files)), True)

    def test_on_trees_with_another_answer(self):
        for files, change in CHANGES:
            with self.subTest(files=files):
                told = first_change(JOURNAL, Tree(files))
                self.assertEqual(told, change)
                self.assertIs(type(told), tuple)
                self.assertIs(holds(JOURNAL, Tree(files)), False)

    def test_the_first_change_is_the_first_of_several(self):
        journal = JOURNAL[:1] + ((("read", "src/a"), ("none",)), (("count", ""), ("many", 7)))
        self.assertEqual(first_change(journal, Tree(FILES)), (1, ("lines", ("x", "y"))))
        self.assertEqual(first_change(journal[2:], Tree(FILES)), (0, ("many", 2)))

    def test_the_same_kind_of_answer_with_other_items_is_a_change(self):
        tree = Tree(FILES)
        for action, answer in ((("list", "src"), ("names", ("a", "b"))), (("find", "", "y"), ("found", ()))):
            self.assertEqual(first_change(((action, answer),), tree), (0, act(tree, action)[0]))

    def test_a_deed_that_is_not_done_has_another_answer(self):
        journal, _ = run(Tree(), (("write", "a", ("1",)), ("read", "a")))
        self.assertEqual(first_change(journal, Tree((("a/b", ()),))), (0, ("blocked",)))
        self.assertIsNone(first_change(journal, Tree((("a", ("0",)),))))

    def test_the_empty_journal_holds_everywhere(self):
        for tree in (Tree(), Tree(FILES)):
            self.assertIsNone(first_change((), tree))
            self.assertIs(holds((), tree), True)

    def test_on_all_small_trees(self):
        trees = all_trees(2)
        for at, actions in enumerate(some_rows(60, 5)):
            journal, _ = run(trees[at % len(trees)], actions)
            for tree in trees:
                there, _ = run(tree, actions)
                others = [k for k in range(len(journal)) if journal[k] != there[k]]
                change = (others[0], there[others[0]][1]) if others else None
                self.assertEqual(first_change(journal, tree), change)
                self.assertIs(holds(journal, tree), not others)


class Leading(unittest.TestCase):
    def test_where_it_holds(self):
        tree = Tree(FILES)
        left = lead(JOURNAL, tree)
        self.assertIsInstance(left, Tree)
        self.assertEqual(left.files(), LEFT)
        self.assertEqual(tree.files(), FILES)

    def test_where_it_does_not_hold_all_actions_are_applied(self):
        lefts = (
            (("src/a", ("z", "z", "x")),),
            (),
            LEFT,
            LEFT + (("src/d", ()),),
        )
        for (files, _), left in zip(CHANGES, lefts):
            with self.subTest(files=files):
                self.assertEqual(lead(JOURNAL, Tree(files)).files(), left)

    def test_the_answers_of_the_journal_do_not_matter(self):
        journal = tuple([(action, ("none",)) for action, _ in JOURNAL])
        self.assertEqual(lead(journal, Tree(FILES)).files(), LEFT)

    def test_the_empty_journal_leads_nowhere(self):
        self.assertEqual(lead((), Tree(FILES)).files(), FILES)


class Interface(unittest.TestCase):
    def test_the_functions_stand_in_their_file(self):
        listed = {"run": ["tree", "actions"], "first_change": ["journal", "tree"], "holds": ["journal", "tree"]}
        listed["lead"] = ["journal", "tree"]
        for name, parameters in listed.items():
            with self.subTest(name=name):
                made = getattr(journals, name)
                self.assertEqual(made.__module__, "sameanswers.journals")
                self.assertEqual(list(inspect.signature(made).parameters), parameters)


if __name__ == "__main__":
    unittest.main()
