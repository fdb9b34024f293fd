"""Points 17 to 21: agents, what they do on a tree, which journals are theirs, and followers and doubters."""

import inspect
import unittest

from sameanswers import agents
from sameanswers.agents import check_agent, doubter, follower, is_of, live, row_after
from sameanswers.errors import OutOfRange
from sameanswers.journals import first_change, holds, run
from sameanswers.trees import Tree
from tests.samples import all_trees, some_rows

STOP = ("stop",)
NONE = ("none",)
DONE = ("done",)
READ = ("read", "a")
# Reads a file; writes another one that tells what it has read; asks for the files there are, and stops.
WRITER = (
    ("act", READ, ((("lines", ("x",)), 1), (("none",), 3)), 2),
    ("act", ("write", "told", ("an x",)), ((DONE, 4),), 5),
    ("act", ("write", "told", ("other lines",)), (), 4),
    ("act", ("write", "a", ("new",)), ((DONE, 5),), 4),
    ("act", ("list", ""), (), 5),
    STOP,
)


def step(action=READ, cases=(), other=1):
    return ("act", action, cases, other)


def steps(many):
    """An agent of so many rows, of which all but the last one act."""
    return tuple([step(other=k + 1) for k in range(many - 1)]) + (STOP,)


def cases(many, behind=1):
    return tuple([(("many", k), behind) for k in range(many)])


class Checking(unittest.TestCase):
    def check_good(self, agent):
        with self.subTest(agent=agent):
            self.assertIsNone(check_agent(agent))

    def check_bad(self, agent):
        with self.subTest(agent=agent):
            with self.assertRaises(OutOfRange) as held:
                check_agent(agent)
            self.assertEqual(held.exception.name, "agent")

    def test_the_numbers(self):
        self.assertEqual((agents.ROWS_MOST, agents.CASES_MOST), (24, 6))

    def test_1_to_24_rows(self):
        self.check_bad(())
        for many in (1, 2, 23, 24):
            self.check_good(steps(many))
            self.check_good((STOP,) * many)
        for many in (25, 26, 40):
            self.check_bad(steps(many))
            self.check_bad((STOP,) * many)

    def test_the_last_row_is_a_stop_row(self):
        self.check_bad((step(),))
        self.check_bad((STOP, step()))
        self.check_bad((STOP, step(other=2)))
        self.check_bad((step(), step(other=2)))
        self.check_bad(steps(24)[:-1])
        self.check_bad((step(), ("pass",)))
        self.check_bad((("fail",),))

    def test_stop_rows_elsewhere(self):
        self.check_good((STOP, STOP))
        self.check_good((step(), STOP, STOP))
        self.check_good((step(other=2), STOP, step(other=3), STOP))

    def test_rows_are_those_of_agents(self):
        self.check_bad((("ask", READ, (), 1), STOP))
        self.check_bad((("pass",), STOP))

    def test_at_most_6_cases(self):
        for many in range(7):
            self.check_good((step(cases=cases(many)), STOP))
        for many in (7, 8, 12):
            self.check_bad((step(cases=cases(many)), STOP))
        self.check_bad((step(), step(cases=cases(7, 2), other=2), STOP))

    def test_cases_with_different_answers(self):
        self.check_good((step(cases=((NONE, 1), (("lines", ()), 1), (("lines", ("",)), 1))), STOP))
        self.check_bad((step(cases=((NONE, 1), (NONE, 1))), STOP))
        self.check_bad((step(cases=((NONE, 1), (NONE, 2)), other=2), STOP, STOP))
        self.check_bad((step(cases=((NONE, 1), (DONE, 1), (NONE, 1))), STOP))
        found = ("found", (("a", 1), ("b", 0)))
        self.check_bad((step(cases=((found, 1), (("found", (("a", 1), ("b", 0))), 1))), STOP))
        self.check_good((step(cases=((found, 1), (("found", (("a", 1), ("b", 1))), 1))), STOP))

    def test_different_rows_may_have_the_same_answers(self):
        self.check_good((step(cases=((NONE, 1),)), step(cases=((NONE, 2),), other=2), STOP))

    def test_indexes_are_those_of_rows_behind(self):
        for behind in range(-5, 9):
            other = (STOP, STOP, step(other=behind), STOP, STOP)
            case = (STOP, STOP, step(cases=((NONE, behind),), other=3), STOP, STOP)
            last = (STOP, STOP, step(cases=((NONE, 3), (DONE, 4), (("full",), behind)), other=3), STOP, STOP)
            for agent in (other, case, last):
                if behind in (3, 4):
                    self.check_good(agent)
                else:
                    self.check_bad(agent)

    def test_indexes_of_the_first_row(self):
        self.check_bad((step(other=0), STOP))
        self.check_bad((step(other=2), STOP))
        self.check_bad((step(other=-1), STOP))
        self.check_bad((step(cases=((NONE, 0),)), STOP))
        self.check_bad((step(cases=((NONE, 2),)), STOP))

    def test_actions_within_their_bounds(self):
        good = (("read", "a/b/c"), ("find", "", "w" * 12), ("write", "a", ("x" * 20,) * 12), ("move", "a", "a"))
        for action in good:
            self.check_good((step(action), STOP))
        bad = (("read", ""), ("kind", "A"), ("list", "a/"), ("find", "", ""), ("count", "a//b"), ("remove", "."))
        bad += (("write", "a", ("x",) * 13), ("move", "a", ""), ("splice", "a", (), ()))
        bad += (("splice", "a", ("x",), ('"',)),)
        for action in bad:
            self.check_bad((step(action), STOP))
            self.check_bad((step(), step(action, other=2), STOP))
            self.check_bad((STOP, step(action, other=2), STOP))


class Living(unittest.TestCase):
    def check_live(self, files, left, *journal):
        tree = Tree(files)
        told, after = live(WRITER, tree)
        self.assertEqual(told, journal)
        self.assertEqual(after.files(), left)
        self.assertEqual(tree.files(), files)

    def test_it_is_a_good_agent(self):
        self.assertIsNone(check_agent(WRITER))

    def test_by_the_first_case(self):
        files = (("a", ("x",)),)
        left = files + (("told", ("an x",)),)
        entries = ((READ, ("lines", ("x",))), (("write", "told", ("an x",)), DONE))
        self.check_live(files, left, *entries, (("list", ""), ("names", ("a", "told"))))

    def test_by_a_later_case(self):
        self.check_live((), (("a", ("new",)),), (READ, NONE), (("write", "a", ("new",)), DONE))

    def test_by_other_where_no_case_gives_the_answer(self):
        files = (("a", ("x", "x")),)
        left = files + (("told", ("other lines",)),)
        entries = ((READ, ("lines", ("x", "x"))), (("write", "told", ("other lines",)), DONE))
        self.check_live(files, left, *entries, (("list", ""), ("names", ("a", "told"))))

    def test_by_other_where_a_deed_is_not_done(self):
        files = (("a/b", ()),)
        blocked = (("write", "a", ("new",)), ("blocked",))
        self.check_live(files, files, (READ, NONE), blocked, (("list", ""), ("names", ("a/",))))
        files = (("a", ("x",)), ("told/b", ()))
        self.check_live(files, files, (READ, ("lines", ("x",))), (("write", "told", ("an x",)), ("blocked",)))

    def test_an_agent_that_only_stops(self):
        for agent in ((STOP,), (STOP, step(other=2), STOP)):
            journal, left = live(agent, Tree((("a", ()),)))
            self.assertEqual(journal, ())
            self.assertEqual(left.files(), (("a", ()),))

    def test_a_stop_row_in_the_midst(self):
        agent = (step(cases=((NONE, 1),), other=2), STOP, step(("remove", "a"), other=3), STOP)
        self.assertEqual(live(agent, Tree())[0], ((READ, NONE),))
        journal, left = live(agent, Tree((("a", ()),)))
        self.assertEqual(journal, ((READ, ("lines", ())), (("remove", "a"), DONE)))
        self.assertEqual(left.files(), ())

    def test_at_most_23_actions(self):
        agent = tuple([step(("write", "a", (str(k),)), other=k + 1) for k in range(23)]) + (STOP,)
        journal, left = live(agent, Tree())
        self.assertEqual([action for action, _ in journal], [("write", "a", (str(k),)) for k in range(23)])
        self.assertEqual(left.files(), (("a", ("22",)),))

    def test_rows_may_be_left_out(self):
        agent = (step(other=3), step(("remove", "a"), other=2), step(("remove", "b"), other=3), STOP)
        self.assertEqual(live(agent, Tree())[0], ((READ, NONE),))


class Belonging(unittest.TestCase):
    JOURNAL = (
        (READ, ("lines", ("x",))),
        (("write", "told", ("an x",)), DONE),
        (("list", ""), ("names", ("a", "told"))),
    )

    def test_what_it_did_is_its_journal(self):
        for files in ((), (("a", ("x",)),), (("a", ("y",)),), (("a/b", ()),), (("a", ("x",)), ("told/b", ()))):
            journal, _ = live(WRITER, Tree(files))
            self.assertIs(is_of(WRITER, journal), True)
            self.assertEqual(row_after(WRITER, journal), 5)

    def test_answers_need_not_be_those_of_a_tree(self):
        journal = self.JOURNAL[:2] + ((("list", ""), ("names", ("q",))),)
        self.assertIs(is_of(WRITER, journal), True)
        self.assertIs(is_of(WRITER, ((READ, NONE), (("write", "a", ("new",)), DONE))), True)

    def test_an_answer_exchanged(self):
        self.assertIs(is_of(WRITER, self.JOURNAL), True)
        self.assertIs(is_of(WRITER, ((READ, NONE),) + self.JOURNAL[1:]), False)
        self.assertIs(is_of(WRITER, ((READ, ("lines", ())),) + self.JOURNAL[1:]), False)
        blocked = (self.JOURNAL[1][0], ("blocked",))
        self.assertIs(is_of(WRITER, (self.JOURNAL[0], blocked, self.JOURNAL[2])), False)

    def test_an_action_exchanged(self):
        for at, action in enumerate((("read", "b"), ("write", "told", ()), ("list", "a"))):
            journal = list(self.JOURNAL)
            journal[at] = (action, journal[at][1])
            self.assertIs(is_of(WRITER, tuple(journal)), False)
            self.assertIsNone(row_after(WRITER, tuple(journal)))

    def test_an_entry_less(self):
        for many in range(3):
            self.assertIs(is_of(WRITER, self.JOURNAL[:many]), False)
        self.assertIs(is_of(WRITER, self.JOURNAL[1:]), False)
        self.assertIs(is_of(WRITER, self.JOURNAL[:1] + self.JOURNAL[2:]), False)

    def test_an_entry_more(self):
        for more in ((READ, NONE), self.JOURNAL[2], (("stop",), NONE)):
            self.assertIs(is_of(WRITER, self.JOURNAL + (more,)), False)
            self.assertIsNone(row_after(WRITER, self.JOURNAL + (more,)))
        self.assertIs(is_of((STOP,), ()), True)
        self.assertIs(is_of((STOP,), ((READ, NONE),)), False)
        self.assertIs(is_of((step(), STOP), ()), False)

    def test_the_rows_after_the_beginnings_of_a_journal(self):
        told = [row_after(WRITER, self.JOURNAL[:many]) for many in range(4)]
        self.assertEqual(told, [0, 1, 4, 5])
        self.assertEqual(row_after(WRITER, ((READ, NONE),)), 3)
        self.assertEqual(row_after(WRITER, ((READ, DONE),)), 2)
        self.assertEqual(row_after(WRITER, ((READ, NONE), (("write", "a", ("new",)), ("full",)))), 4)
        self.assertEqual(row_after((STOP,), ()), 0)
        self.assertEqual(row_after((step(other=2), STOP, STOP), ((READ, NONE),)), 2)

    def test_no_row_after_an_action_that_it_does_not_want(self):
        self.assertIsNone(row_after(WRITER, ((("read", "b"), NONE),)))
        self.assertIsNone(row_after(WRITER, ((("list", ""), NONE),)))
        self.assertIsNone(row_after(WRITER, ((READ, NONE), (("list", ""), NONE))))
        self.assertIsNone(row_after(WRITER, ((READ, NONE), (READ, NONE))))
        self.assertIsNone(row_after((STOP,), ((READ, NONE),)))
        # What comes behind the unwanted action may be wanted again.
        self.assertIsNone(row_after(WRITER, (self.JOURNAL[0], (READ, NONE)) + self.JOURNAL[1:]))


class Following(unittest.TestCase):
    JOURNAL = Belonging.JOURNAL

    def test_the_rows(self):
        rows = (
            ("act", READ, ((("lines", ("x",)), 1),), 3),
            ("act", ("write", "told", ("an x",)), ((DONE, 2),), 3),
            ("act", ("list", ""), ((("names", ("a", "told")), 3),), 3),
            STOP,
        )
        self.assertEqual(follower(self.JOURNAL), rows)
        self.assertIs(type(follower(self.JOURNAL)), tuple)

    def test_of_no_entries(self):
        self.assertEqual(follower(()), (STOP,))

    def test_of_1_entry(self):
        self.assertEqual(follower(((READ, NONE),)), (("act", READ, ((NONE, 1),), 1), STOP))

    def test_of_22_entries(self):
        journal = tuple([(("write", "a", (str(k),)), DONE) for k in range(22)])
        agent = follower(journal)
        self.assertIsNone(check_agent(agent))
        self.assertEqual(len(agent), 23)
        self.assertEqual(agent[0], ("act", ("write", "a", ("0",)), ((DONE, 1),), 22))
        self.assertEqual(agent[21], ("act", ("write", "a", ("21",)), ((DONE, 22),), 22))
        self.assertIs(is_of(agent, journal), True)
        self.assertEqual(live(agent, Tree())[0], journal)

    def test_the_journal_is_one_of_it(self):
        agent = follower(self.JOURNAL)
        self.assertIsNone(check_agent(agent))
        self.assertIs(is_of(agent, self.JOURNAL), True)
        self.assertIs(is_of(agent, self.JOURNAL[:2]), False)
        self.assertEqual(live(agent, Tree((("a", ("x",)),)))[0], self.JOURNAL)

    def test_it_stops_where_an_answer_is_another_one(self):
        agent = follower(self.JOURNAL)
        journal, left = live(agent, Tree())
        self.assertEqual((journal, left.files()), (((READ, NONE),), ()))
        files = (("a", ("x",)), ("told/b", ()))
        journal, left = live(agent, Tree(files))
        self.assertEqual(journal, (self.JOURNAL[0], (self.JOURNAL[1][0], ("blocked",))))
        self.assertEqual(left.files(), files)
        journal, _ = live(agent, Tree((("a", ("x",)), ("b", ()))))
        self.assertEqual(journal, self.JOURNAL[:2] + ((("list", ""), ("names", ("a", "b", "told"))),))


class Doubting(unittest.TestCase):
    JOURNAL = Belonging.JOURNAL
    DOUBT = ("write", "doubt", ())

    def test_the_rows(self):
        for at in range(3):
            others = [4, 4, 4]
            others[at] = 3
            rows = (
                ("act", READ, ((("lines", ("x",)), 1),), others[0]),
                ("act", ("write", "told", ("an x",)), ((DONE, 2),), others[1]),
                ("act", ("list", ""), ((("names", ("a", "told")), 4),), others[2]),
                ("act", self.DOUBT, (), 4),
                STOP,
            )
            self.assertEqual(doubter(self.JOURNAL, at), rows)
            self.assertIs(type(doubter(self.JOURNAL, at)), tuple)

    def test_of_1_entry(self):
        rows = (("act", READ, ((NONE, 2),), 1), ("act", self.DOUBT, (), 2), STOP)
        self.assertEqual(doubter(((READ, NONE),), 0), rows)

    def test_of_22_entries(self):
        journal = tuple([(("write", "a", (str(k),)), DONE) for k in range(22)])
        for at in (0, 7, 21):
            agent = doubter(journal, at)
            self.assertEqual(len(agent), 24)
            self.assertIsNone(check_agent(agent))
            self.assertIs(is_of(agent, journal), True)
            self.assertEqual([k for k in range(22) if agent[k][3] == 22], [at])
            self.assertEqual(agent[21][2], ((DONE, 23),))
            self.assertEqual(live(agent, Tree())[0], journal)

    def test_an_index_out_of_range(self):
        for journal, bad in ((self.JOURNAL, (-4, -3, -1, 3, 4, 40)), ((), (-1, 0, 1)), (self.JOURNAL[:1], (-1, 1))):
            for at in bad:
                with self.subTest(at=at):
                    with self.assertRaises(OutOfRange) as held:
                        doubter(journal, at)
                    self.assertEqual(held.exception.name, "at")

    def test_the_journal_is_one_of_it(self):
        for at in range(3):
            agent = doubter(self.JOURNAL, at)
            self.assertIsNone(check_agent(agent))
            self.assertIs(is_of(agent, self.JOURNAL), True)
            self.assertEqual(live(agent, Tree((("a", ("x",)),)))[0], self.JOURNAL)

    def test_it_doubts_where_this_answer_is_another_one(self):
        changed = ((), (("a", ("x",)), ("told/b", ())), (("a", ("x",)), ("b", ())))
        for at, files in enumerate(changed):
            journal, left = live(doubter(self.JOURNAL, at), Tree(files))
            self.assertEqual(journal[:at], self.JOURNAL[:at])
            self.assertEqual(journal[at][0], self.JOURNAL[at][0])
            self.assertNotEqual(journal[at][1], self.JOURNAL[at][1])
            self.assertEqual(journal[at + 1 :], ((self.DOUBT, DONE),))
            self.assertEqual(left.lines("doubt"), ())

    def test_it_stops_where_another_answer_is_another_one(self):
        changed = ((), (("a", ("x",)), ("told/b", ())), (("a", ("x",)), ("b", ())))
        for change, files in enumerate(changed):
            for at in range(3):
                if at != change:
                    told, left = live(doubter(self.JOURNAL, at), Tree(files))
                    same, _ = live(follower(self.JOURNAL), Tree(files))
                    self.assertEqual(told, same)
                    self.assertIsNone(left.lines("doubt"))

    def test_what_it_writes_need_not_be_done(self):
        files = (("doubt", ("old",)),)
        _, left = live(doubter(((READ, ("lines", ())),), 0), Tree(files))
        self.assertEqual(left.files(), (("doubt", ()),))
        journal, _ = live(doubter(((READ, ("lines", ())),), 0), Tree((("doubt/b", ()),)))
        self.assertEqual(journal, ((READ, NONE), (self.DOUBT, ("blocked",))))


class SameAnswers(unittest.TestCase):
    def test_a_journal_that_holds_is_done_again_and_one_that_does_not_is_not(self):
        trees = all_trees(2)
        for row, actions in enumerate(some_rows(40, 5)):
            journal, _ = run(trees[row % len(trees)], actions)
            rows = [follower(journal)] + [doubter(journal, at) for at in range(len(journal))]
            for tree in trees:
                change = first_change(journal, tree)
                for agent in rows:
                    told, left = live(agent, tree)
                    self.assertEqual(told == journal, holds(journal, tree))
                    if change is None:
                        self.assertIs(left.is_same(run(tree, actions)[1]), True)
                if change is not None:
                    told, _ = live(rows[change[0] + 1], tree)
                    self.assertEqual(told[change[0]][1], change[1])
                    self.assertEqual(told[change[0] + 1][0], ("write", "doubt", ()))
                    self.assertEqual(len(told), change[0] + 2)


class Interface(unittest.TestCase):
    def test_the_functions_stand_in_their_file(self):
        listed = {"check_agent": ["agent"], "live": ["agent", "tree"], "is_of": ["agent", "journal"]}
        listed.update({"row_after": ["agent", "journal"], "follower": ["journal"], "doubter": ["journal", "at"]})
        for name, parameters in listed.items():
            with self.subTest(name=name):
                made = getattr(agents, name)
                self.assertEqual(made.__module__, "sameanswers.agents")
                self.assertEqual(list(inspect.signature(made).parameters), parameters)


if __name__ == "__main__":
    unittest.main()
