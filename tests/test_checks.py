"""Points 25 and 26: checks, their verdicts, and the trees for which a verdict is sure."""

import inspect
import unittest

from sameanswers import checks
from sameanswers.actions import is_question
from sameanswers.checks import check_check, verdict
from sameanswers.errors import OutOfRange
from sameanswers.journals import holds
from sameanswers.trees import Tree
from tests.samples import PATHS, all_trees

PASS = ("pass",)
FAIL = ("fail",)
NONE = ("none",)
READ = ("read", "a")
# Passes if there is a file a with the line x alone, or no file at all.
CHECK = (
    ("ask", READ, ((("lines", ("x",)), 3), (NONE, 1)), 2),
    ("ask", ("count", ""), ((("many", 0), 3),), 4),
    FAIL,
    PASS,
    FAIL,
)


def step(action=READ, cases=(), other=1):
    return ("ask", action, cases, other)


def steps(many, end=PASS):
    return tuple([step(other=k + 1) for k in range(many - 1)]) + (end,)


class Checking(unittest.TestCase):
    def check_good(self, check):
        with self.subTest(check=check):
            self.assertIsNone(check_check(check))

    def check_bad(self, check):
        with self.subTest(check=check):
            with self.assertRaises(OutOfRange) as held:
                check_check(check)
            self.assertEqual(held.exception.name, "check")

    def test_1_to_24_rows(self):
        self.check_bad(())
        for many in (1, 2, 23, 24):
            for end in (PASS, FAIL):
                self.check_good(steps(many, end))
                self.check_good((end,) * many)
        for many in (25, 26, 40):
            for end in (PASS, FAIL):
                self.check_bad(steps(many, end))
                self.check_bad((end,) * many)

    def test_the_last_row_is_a_pass_or_fail_row(self):
        self.check_bad((step(),))
        self.check_bad((PASS, step()))
        self.check_bad((FAIL, step(other=2)))
        self.check_bad((step(), ("stop",)))
        self.check_bad((("stop",),))

    def test_pass_and_fail_rows_elsewhere(self):
        self.check_good(CHECK)
        self.check_good((PASS, FAIL))
        self.check_good((FAIL, PASS, PASS))
        self.check_good((step(other=2), PASS, step(other=3), FAIL))

    def test_rows_are_those_of_checks(self):
        self.check_bad((("act", READ, (), 1), PASS))
        self.check_bad((("stop",), PASS))
        self.check_bad((step(), ("stop",), PASS))

    def test_at_most_6_cases(self):
        for many in range(9):
            cases = tuple([(("many", k), 1) for k in range(many)])
            if many <= 6:
                self.check_good((step(cases=cases), PASS))
            else:
                self.check_bad((step(cases=cases), PASS))

    def test_cases_with_different_answers(self):
        self.check_good((step(cases=((NONE, 1), (("lines", ()), 1))), PASS))
        self.check_bad((step(cases=((NONE, 1), (NONE, 1))), PASS))
        self.check_bad((step(cases=((NONE, 1), (("lines", ()), 1), (NONE, 2)), other=2), FAIL, PASS))

    def test_indexes_are_those_of_rows_behind(self):
        for behind in range(-5, 9):
            other = (PASS, FAIL, step(other=behind), PASS, FAIL)
            case = (PASS, FAIL, step(cases=((NONE, behind),), other=3), PASS, FAIL)
            for check in (other, case):
                if behind in (3, 4):
                    self.check_good(check)
                else:
                    self.check_bad(check)

    def test_questions_within_their_bounds(self):
        for action in (READ, ("kind", ""), ("list", "a/b/c"), ("find", "", "w" * 12), ("count", "")):
            self.check_good((step(action), FAIL))
        for action in (("read", ""), ("kind", "A"), ("list", "a/"), ("find", "", ""), ("count", "a//b")):
            self.check_bad((step(action), FAIL))
            self.check_bad((step(), step(action, other=2), PASS))

    def test_questions_only(self):
        for action in (("write", "a", ()), ("remove", "a"), ("move", "a", "b"), ("splice", "a", ("x",), ())):
            self.check_bad((step(action), PASS))
            self.check_bad((step(), step(action, other=2), FAIL))
            self.check_bad((PASS, step(action, other=2), FAIL))


class Verdicts(unittest.TestCase):
    def check_verdict(self, check, files, passed, *journal):
        tree = Tree(files)
        told = verdict(check, tree)
        self.assertEqual(told, (passed, journal))
        self.assertIs(type(told), tuple)
        self.assertIs(told[0], passed)
        self.assertIs(type(told[1]), tuple)
        self.assertEqual(tree.files(), files)

    def test_both_ends_by_cases_and_by_other(self):
        read = (READ, ("lines", ("x",)))
        self.check_verdict(CHECK, (("a", ("x",)),), True, read)
        self.check_verdict(CHECK, (("a", ("x",)), ("b", ())), True, read)
        self.check_verdict(CHECK, (("a", ()),), False, (READ, ("lines", ())))
        self.check_verdict(CHECK, (), True, (READ, NONE), (("count", ""), ("many", 0)))
        self.check_verdict(CHECK, (("b", ()),), False, (READ, NONE), (("count", ""), ("many", 1)))
        self.check_verdict(CHECK, (("a/b", ()), ("b", ())), False, (READ, NONE), (("count", ""), ("many", 2)))

    def test_checks_that_ask_nothing(self):
        self.check_verdict((PASS,), (), True)
        self.check_verdict((FAIL,), (), False)
        self.check_verdict((PASS, FAIL), (), True)
        self.check_verdict((FAIL, step(other=2), PASS), (("a", ()),), False)

    def test_the_end_that_is_reached_counts(self):
        check = (step(cases=((NONE, 1),), other=2), PASS, FAIL)
        self.check_verdict(check, (), True, (READ, NONE))
        self.check_verdict(check, (("a", ()),), False, (READ, ("lines", ())))
        check = (step(cases=((NONE, 1),), other=2), FAIL, PASS)
        self.check_verdict(check, (), False, (READ, NONE))
        self.check_verdict(check, (("a", ()),), True, (READ, ("lines", ())))

    def test_23_questions(self):
        check = tuple([step(("kind", f"n{k}"), other=k + 1) for k in range(23)]) + (PASS,)
        rows = [(("kind", f"n{k}"), ("file",) if k == 7 else NONE) for k in range(23)]
        self.check_verdict(check, (("n7", ()),), True, *rows)


class Sure(unittest.TestCase):
    CHECKS = (
        CHECK,
        (
            step(("list", ""), ((("names", ("a",)), 1), (("names", ("a", "e")), 2)), 3),
            step(("find", "", "y"), ((("found", ()), 4),), 3),
            step(("kind", "a"), ((("folder",), 4),), 5),
            FAIL,
            PASS,
            FAIL,
        ),
        tuple([step(("kind", path), other=k + 1) for k, path in enumerate(PATHS)]) + (PASS,),
    )

    def test_a_verdict_that_is_sure_for_another_tree_is_the_verdict_there(self):
        trees = all_trees()
        for check in self.CHECKS:
            self.assertIsNone(check_check(check))
            verdicts = [verdict(check, tree) for tree in trees]
            sure = 0
            for told in verdicts:
                for tree, there in zip(trees, verdicts):
                    if holds(told[1], tree):
                        self.assertEqual(told, there)
                        sure += 1
            # Each verdict is sure for its own tree, so only more of them say something.
            self.assertGreater(sure, 2 * len(trees))

    def test_the_journal_holds_where_the_check_ran(self):
        for check in self.CHECKS:
            for tree in all_trees():
                _, journal = verdict(check, tree)
                self.assertIs(holds(journal, tree), True)
                self.assertTrue(all(is_question(action) for action, _ in journal))


class Interface(unittest.TestCase):
    def test_the_functions_stand_in_their_file(self):
        for name, parameters in (("check_check", ["check"]), ("verdict", ["check", "tree"])):
            with self.subTest(name=name):
                made = getattr(checks, name)
                self.assertEqual(made.__module__, "sameanswers.checks")
                self.assertEqual(list(inspect.signature(made).parameters), parameters)


if __name__ == "__main__":
    unittest.main()
