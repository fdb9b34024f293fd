"""Points 16, 27, 28 and 33: the versions and the sessions of a trunk, and taking versions back."""

import inspect
import unittest

from sameanswers import trunk as trunk_file
from sameanswers.errors import (
    JournalFull,
    NoSession,
    OutOfRange,
    TooManySessions,
    TooManyVersions,
    WrongPosition,
)
from sameanswers.journals import lead, run
from sameanswers.trees import Tree
from sameanswers.trunk import Trunk
from tests.samples import FULL
from tests.trunks import DONE, FILES, TrunkCase, lines, passing, told_of

BAD_NAMES = ("", "A", "a/b", "a b", "abcdefghi", "-")
BAD_ACTIONS = (
    (("read", "A"), "path"),
    (("kind", "a//b"), "place"),
    (("find", "/", ""), "place"),
    (("find", "a", ""), "word"),
    (("write", "", ("x" * 21,)), "path"),
    (("write", "a", ("x" * 21,)), "lines"),
    (("write", "a", ("",) * 13), "lines"),
    (("move", "a", ""), "target"),
    (("move", "", ""), "path"),
    (("splice", "a", (), ("x" * 21,)), "old"),
    (("splice", "a", ("x",), ("",) * 13), "new"),
)


class Making(TrunkCase):
    def test_the_numbers(self):
        self.assertEqual(trunk_file.SESSIONS_MOST, 6)
        self.assertEqual(trunk_file.VERSIONS_MOST, 200)
        self.assertEqual(trunk_file.JOURNAL_MOST, 40)
        self.assertEqual(trunk_file.CHECKS_MOST, 4)
        self.assertEqual(trunk_file.VERDICTS_MOST, 5)
        self.assertEqual(trunk_file.PATIENCE_MOST, 9)

    def check_refused(self, patience, allowance, name):
        with self.assertRaises(OutOfRange) as held:
            Trunk(Tree(), patience, allowance)
        self.assertEqual(held.exception.name, name)

    def test_patience_and_allowance_from_1_to_9(self):
        for number in range(1, 10):
            self.assertEqual(Trunk(Tree(), number, 10 - number).version(), 0)
        for number in (-9, -1, 0, 10, 11, 100):
            for good in (1, 5, 9):
                self.check_refused(number, good, "patience")
                self.check_refused(good, number, "allowance")
            self.check_refused(number, 0, "patience")
            self.check_refused(number, 10, "patience")

    def test_a_new_trunk(self):
        self.assertEqual(told_of(self.trunk()), (0, [FILES], [], [], [], [], 0))


class Versions(TrunkCase):
    def test_version_0_is_given_and_append_makes_more(self):
        trunk = self.trunk()
        self.assertEqual(trunk.append("one", (("write", "c", ("z",)), ("count", ""))), 1)
        self.assertEqual(trunk.append("two", [("remove", "a")]), 2)
        self.assertEqual(trunk.append("three", ()), 3)
        self.assertEqual(trunk.append("four", []), 4)
        self.assertEqual(trunk.version(), 4)
        first = FILES[:2] + (("c", ("z",)),) + FILES[2:]
        self.assertEqual(trunk.tree(0).files(), FILES)
        self.assertEqual(trunk.tree(1).files(), first)
        for version in (2, 3, 4):
            self.assertEqual(trunk.tree(version).files(), first[1:])
        self.assertEqual(trunk.entry(1), ("one", ((("write", "c", ("z",)), DONE), (("count", ""), ("many", 4)))))
        self.assertEqual(trunk.entry(2), ("two", ((("remove", "a"), DONE),)))
        self.assertEqual(trunk.entry(3), ("three", ()))
        self.assertEqual(trunk.entry(4), ("four", ()))
        self.assertEqual(told_of(trunk)[3], [])

    def test_an_accepted_session_makes_one_version(self):
        trunk = self.trunk()
        session = self.begun(trunk, "me", ("read", "a"), ("write", "a", ("n",)))
        self.assertEqual(self.submit(trunk, session), ("accepted", 1))
        self.assertEqual(trunk.version(), 1)
        self.assertEqual(trunk.entry(1), ("me", ((("read", "a"), lines("x")), (("write", "a", ("n",)), DONE))))
        self.assertEqual(trunk.tree(1).lines("a"), ("n",))
        self.assertEqual(trunk.tree(0).lines("a"), ("x",))

    def test_the_journal_of_an_entry_is_that_on_the_version_before(self):
        trunk = self.trunk()
        for at, rows in enumerate(([("write", "a", ()), ("remove", "b")], [("remove", "b"), ("move", "a", "b")])):
            trunk.append("me", rows)
            journal, tree = run(trunk.tree(at), rows)
            self.assertEqual(trunk.entry(at + 1), ("me", journal))
            self.assertTrue(trunk.tree(at + 1).is_same(tree))

    def test_versions_out_of_range(self):
        trunk = self.trunk()
        for version in (-2, -1, 1, 2, 200):
            self.check_raises(trunk, "version", trunk.tree, version)
        for version in (-2, -1, 0, 1, 2, 200):
            self.check_raises(trunk, "version", trunk.entry, version)
        trunk.append("me", ())
        for version in (-2, -1, 2, 3, 200):
            self.check_raises(trunk, "version", trunk.tree, version)
        for version in (-2, -1, 0, 2, 3, 200):
            self.check_raises(trunk, "version", trunk.entry, version)

    def test_append_of_what_is_out_of_bounds(self):
        trunk = self.trunk()
        for name in BAD_NAMES:
            self.check_raises(trunk, "name", trunk.append, name, ())
            self.check_raises(trunk, "name", trunk.append, name, (("read", ""),))
        for action, name in BAD_ACTIONS:
            self.check_raises(trunk, name, trunk.append, "me", (action,))
            self.check_raises(trunk, name, trunk.append, "me", [("write", "c", ()), action, ("read", "A")])

    def test_the_first_bad_action_counts(self):
        trunk = self.trunk()
        actions = [("read", "a"), ("count", "/"), ("find", "", ""), ("write", "", ())]
        self.check_raises(trunk, "place", trunk.append, "me", actions)
        self.check_raises(trunk, "word", trunk.append, "me", actions[2:])
        self.check_raises(trunk, "path", trunk.append, "me", actions[3:])

    def test_append_keeps_no_list(self):
        trunk = self.trunk()
        actions = [("remove", "a")]
        trunk.append("me", actions)
        actions[0] = ("remove", "b")
        actions.append(("read", "b"))
        self.assertEqual(trunk.entry(1), ("me", ((("remove", "a"), DONE),)))

    def test_append_has_no_bound_of_40_actions(self):
        trunk = self.trunk()
        self.assertEqual(trunk.append("me", [("count", "")] * 41), 1)
        self.assertEqual(len(trunk.entry(1)[1]), 41)

    def test_200_versions(self):
        trunk = self.trunk()
        holding = self.begun(trunk, "one", ("read", "b"))
        refused = self.begun(trunk, "two", ("read", "a"))
        gone = trunk.begin("three")
        trunk.close(gone)
        for version in range(1, 200):
            self.assertEqual(trunk.append("me", (("write", "a", (str(version),)),)), version)
        last = self.begun(trunk, "last", ("read", "a"))
        self.assertEqual(self.submit(trunk, last), ("accepted", 200))
        self.assertEqual(trunk.tree(200).lines("a"), ("199",))
        # Not even a session that would be refused is looked at.
        for session in (holding, refused):
            self.check_raises(trunk, TooManyVersions, trunk.submit, session, 1)
            self.check_raises(trunk, WrongPosition, trunk.submit, session, 0)
            self.check_raises(trunk, WrongPosition, trunk.submit, session, 2)
        self.check_raises(trunk, NoSession, trunk.submit, gone, 0)
        self.check_raises(trunk, NoSession, trunk.submit, last, 1)
        self.check_raises(trunk, TooManyVersions, trunk.append, "me", ())
        self.check_raises(trunk, "name", trunk.append, "", ())
        self.check_raises(trunk, "path", trunk.append, "me", (("read", ""),))
        self.assertEqual(trunk.standing(refused), (0, lines("199"), 1))
        self.assertEqual(trunk.version(), 200)

    def test_200_versions_by_append(self):
        trunk = self.trunk()
        for version in range(1, 201):
            self.assertEqual(trunk.append("me", ()), version)
        self.check_raises(trunk, TooManyVersions, trunk.append, "me", ())
        self.check_raises(trunk, TooManyVersions, trunk.submit, trunk.begin("me"), 0)


class Sessions(TrunkCase):
    def test_a_new_session(self):
        trunk = self.trunk()
        trunk.append("me", (("remove", "a"),))
        self.assertEqual(trunk.begin("one"), 0)
        trunk.append("me", (("remove", "b"),))
        self.assertEqual(trunk.begin("two"), 1)
        self.assertEqual(told_of(trunk)[3][0], ("open", "one", 1, 0, (), FILES[1:], None, False, None))
        self.assertEqual(told_of(trunk)[3][1], ("open", "two", 2, 0, (), FILES[2:], None, False, None))

    def test_it_acts_on_the_tree_that_it_sees(self):
        trunk = self.trunk()
        session = trunk.begin("me")
        self.assertEqual(trunk.act(session, 0, ("read", "a")), lines("x"))
        self.assertEqual(trunk.act(session, 1, ("write", "a", ("n",))), DONE)
        self.write(trunk, "a", "other")
        self.write(trunk, "c", "other")
        self.assertEqual(trunk.act(session, 2, ("read", "a")), lines("n"))
        self.assertEqual(trunk.act(session, 3, ("count", "")), ("many", 3))
        self.assertEqual(trunk.act(session, 4, ("remove", "c")), ("missing",))
        journal = (
            (("read", "a"), lines("x")),
            (("write", "a", ("n",)), DONE),
            (("read", "a"), lines("n")),
            (("count", ""), ("many", 3)),
            (("remove", "c"), ("missing",)),
        )
        self.assertEqual(trunk.journal(session), journal)
        self.assertEqual(trunk.base(session), 0)
        self.assertEqual(trunk.sight(session).files(), (("a", ("n",)),) + FILES[1:])
        self.assertTrue(trunk.sight(session).is_same(lead(journal, trunk.tree(0))))
        self.assertEqual(trunk.tree(0).files(), FILES)

    def test_sessions_do_not_see_each_other(self):
        trunk = self.trunk()
        one, two = trunk.begin("me"), trunk.begin("me")
        trunk.act(one, 0, ("write", "a", ("one",)))
        trunk.act(two, 0, ("write", "a", ("two",)))
        self.assertEqual(trunk.act(one, 1, ("read", "a")), lines("one"))
        self.assertEqual(trunk.act(two, 1, ("read", "a")), lines("two"))

    def test_numbers_in_the_order_of_opening(self):
        trunk = self.trunk()
        self.assertEqual([trunk.begin(f"s{k}") for k in range(3)], [0, 1, 2])
        trunk.close(1)
        self.assertEqual(trunk.begin("s3"), 3)
        self.submit(trunk, 0)
        self.assertEqual(trunk.begin("s4"), 4)
        self.assertEqual([trunk.name(k) for k in range(5)], ["s0", "s1", "s2", "s3", "s4"])
        self.assertEqual([trunk.state(k) for k in range(5)], ["accepted", "closed", "open", "open", "open"])

    def test_bad_names(self):
        trunk = self.trunk()
        for name in BAD_NAMES:
            self.check_raises(trunk, "name", trunk.begin, name)
        for name in ("a", "0", "abcdefgh", "a1b2c3"):
            session = trunk.begin(name)
            self.assertEqual(trunk.name(session), name)
            trunk.close(session)

    def test_6_are_open_at_a_time(self):
        trunk = self.trunk()
        trunk.append("me", (("write", "c", ()),))
        for k in range(6):
            self.assertEqual(trunk.begin("me"), k)
        self.check_raises(trunk, TooManySessions, trunk.begin, "me")
        self.check_raises(trunk, "name", trunk.begin, "")
        self.check_raises(trunk, TooManySessions, trunk.take_back, 1, "me")
        trunk.close(3)
        self.assertEqual(trunk.begin("me"), 6)
        self.check_raises(trunk, TooManySessions, trunk.begin, "me")
        self.submit(trunk, 0)
        self.assertEqual(trunk.take_back(1, "me"), 7)
        self.check_raises(trunk, TooManySessions, trunk.begin, "me")
        # A refused one is open still.
        trunk.append("me", (("remove", "c"),))
        self.assertEqual(self.submit(trunk, 7)[0], "refused")
        self.check_raises(trunk, TooManySessions, trunk.begin, "me")

    def test_40_entries(self):
        trunk = self.trunk()
        session = trunk.begin("me")
        for k in range(40):
            self.assertEqual(trunk.act(session, k, ("count", "d")), ("many", 1))
        self.check_raises(trunk, JournalFull, trunk.act, session, 40, ("count", "d"))
        self.check_raises(trunk, JournalFull, trunk.act, session, 40, ("write", "c", ()))
        self.check_raises(trunk, WrongPosition, trunk.act, session, 41, ("count", "d"))
        self.check_raises(trunk, WrongPosition, trunk.act, session, 39, ("count", "d"))
        self.check_raises(trunk, "path", trunk.act, session, 40, ("read", ""))
        self.assertEqual(trunk.submit(session, 40), ("accepted", 1))
        self.check_raises(trunk, NoSession, trunk.act, session, 40, ("count", "d"))
        self.assertEqual(len(trunk.entry(1)[1]), 40)

    def test_wrong_positions(self):
        trunk = self.trunk()
        session = trunk.begin("me")
        for many in range(3):
            for position in (-1, 0, 1, 2, 3, 4, 40, 41):
                if position != many:
                    self.check_raises(trunk, WrongPosition, trunk.act, session, position, ("read", "a"))
                    self.check_raises(trunk, WrongPosition, trunk.submit, session, position)
            trunk.act(session, many, ("read", "a"))

    def test_bad_actions(self):
        trunk = self.trunk()
        session = self.begun(trunk, "me", ("read", "a"))
        for action, name in BAD_ACTIONS:
            self.check_raises(trunk, name, trunk.act, session, 1, action)
            self.check_raises(trunk, name, trunk.act, session, 0, action)
            self.check_raises(trunk, NoSession, trunk.act, 1, 1, action)

    def test_numbers_that_no_session_has(self):
        trunk = self.trunk()
        for many in range(3):
            for session in (-many - 1, -2, -1, many, many + 1, 100):
                if session not in range(many):
                    calls = [trunk.close, trunk.standing, trunk.state, trunk.name, trunk.base, trunk.refusals]
                    calls += [trunk.journal, trunk.sight, trunk.place, trunk.is_protected]
                    for call in calls:
                        self.check_raises(trunk, NoSession, call, session)
                    self.check_raises(trunk, NoSession, trunk.act, session, 0, ("read", "a"))
                    self.check_raises(trunk, NoSession, trunk.act, session, 7, ("read", ""))
                    self.check_raises(trunk, NoSession, trunk.submit, session, 0)
                    self.check_raises(trunk, NoSession, trunk.submit, session, 7)
            trunk.begin("me")


class Ended(TrunkCase):
    def check_ended(self, trunk, session, state, base, refusals, journal, files):
        for call in (trunk.close, trunk.standing):
            self.check_raises(trunk, NoSession, call, session)
        for position in (0, len(journal)):
            self.check_raises(trunk, NoSession, trunk.act, session, position, ("read", "a"))
            self.check_raises(trunk, NoSession, trunk.submit, session, position)
        told = (state, "me", base, refusals, journal, files, None, False, None)
        self.assertEqual(told_of(trunk)[3][session], told)

    def test_a_closed_session_tells_what_it_was_last(self):
        trunk = self.trunk()
        session = self.begun(trunk, "me", ("write", "a", ("n",)), ("read", "b"))
        self.assertIsNone(trunk.close(session))
        journal = ((("write", "a", ("n",)), DONE), (("read", "b"), lines("y")))
        files = (("a", ("n",)),) + FILES[1:]
        self.check_ended(trunk, session, "closed", 0, 0, journal, files)
        self.write(trunk, "b", "other")
        self.check_ended(trunk, session, "closed", 0, 0, journal, files)

    def test_a_closed_session_that_was_refused(self):
        trunk = self.trunk(patience=1)
        session = self.begun(trunk, "me", ("write", "a", ("n",)), ("read", "b"))
        self.write(trunk, "b", "other")
        self.assertEqual(self.submit(trunk, session), ("refused", 1, lines("other"), 1))
        trunk.close(session)
        files = (("a", ("n",)), ("b", ("other",))) + FILES[2:]
        self.check_ended(trunk, session, "closed", 1, 1, ((("write", "a", ("n",)), DONE),), files)

    def test_an_accepted_session_tells_what_it_was_last(self):
        trunk = self.trunk()
        session = self.begun(trunk, "me", ("write", "a", ("n",)))
        self.write(trunk, "b", "other")
        self.assertEqual(self.submit(trunk, session), ("accepted", 2))
        files = (("a", ("n",)),) + FILES[1:]
        self.check_ended(trunk, session, "accepted", 0, 0, ((("write", "a", ("n",)), DONE),), files)
        self.write(trunk, "a", "other")
        self.check_ended(trunk, session, "accepted", 0, 0, ((("write", "a", ("n",)), DONE),), files)

    def test_an_accepted_session_that_was_refused(self):
        trunk = self.trunk(patience=1)
        session = self.begun(trunk, "me", ("read", "b"))
        self.write(trunk, "b", "other")
        self.submit(trunk, session)
        self.do(trunk, session, ("remove", "b"))
        self.assertEqual(self.submit(trunk, session), ("accepted", 2))
        files = (FILES[0], FILES[2])
        self.check_ended(trunk, session, "accepted", 1, 1, ((("remove", "b"), DONE),), files)

    def test_a_session_ends_once(self):
        trunk = self.trunk()
        session = trunk.begin("me")
        self.submit(trunk, session)
        self.assertEqual(trunk.version(), 1)
        self.check_raises(trunk, NoSession, trunk.submit, session, 0)
        self.check_raises(trunk, NoSession, trunk.close, session)
        other = trunk.begin("me")
        trunk.close(other)
        self.check_raises(trunk, NoSession, trunk.submit, other, 0)
        self.assertEqual([trunk.state(session), trunk.state(other)], ["accepted", "closed"])


class TakingBack(TrunkCase):
    def check_taken_back(self, trunk, version, actions):
        session = trunk.take_back(version, "back")
        journal, tree = run(trunk.tree(version), actions)
        told = told_of_session_without_standing(trunk, session)
        self.assertEqual(told, ("open", "back", version, 0, journal, tree.files(), None, False))
        self.assertTrue(trunk.sight(session).is_same(trunk.tree(version - 1)))
        return session

    def test_the_newest_version(self):
        trunk = self.trunk()
        self.write(trunk, "a", "n")
        session = self.check_taken_back(trunk, 1, (("read", "a"), ("write", "a", ("x",))))
        self.assertIsNone(trunk.standing(session))
        self.assertEqual(trunk.submit(session, 2), ("accepted", 2))
        self.assertEqual(trunk.tree(2).files(), FILES)
        self.assertEqual(trunk.entry(2), ("back", ((("read", "a"), lines("n")), (("write", "a", ("x",)), DONE))))

    def test_an_elder_version_whose_inverse_holds(self):
        trunk = self.trunk()
        self.accept(trunk, ("move", "a", "c"), ("write", "d/f", ("new",)))
        self.write(trunk, "b", "other")
        session = self.check_taken_back(trunk, 1, (("read", "d/f"), ("remove", "d/f"), ("move", "c", "a")))
        self.assertIsNone(trunk.standing(session))
        self.assertEqual(trunk.submit(session, 3), ("accepted", 3))
        self.assertEqual(trunk.tree(3).files(), (FILES[0], ("b", ("other",)), FILES[2]))

    def test_an_elder_version_whose_inverse_does_not_hold(self):
        trunk = self.trunk()
        self.write(trunk, "a", "n")
        self.write(trunk, "b", "other")
        self.write(trunk, "a", "later")
        session = self.check_taken_back(trunk, 1, (("read", "a"), ("write", "a", ("x",))))
        self.assertEqual(trunk.standing(session), (0, lines("later"), 3))
        self.assertEqual(trunk.submit(session, 2), ("refused", 0, lines("later"), 3))
        self.assertEqual(told_of_session_without_standing(trunk, session)[2:5], (3, 1, ()))
        self.assertTrue(trunk.sight(session).is_same(trunk.tree(3)))

    def test_a_version_that_was_appended(self):
        trunk = self.trunk()
        trunk.append("me", [("read", "a"), ("splice", "a", ("x",), ("n", "m"))])
        session = self.check_taken_back(trunk, 1, (("splice", "a", ("n", "m"), ("x",)),))
        self.assertEqual(trunk.submit(session, 1), ("accepted", 2))

    def test_a_version_without_deeds(self):
        trunk = self.trunk()
        self.accept(trunk, ("read", "a"), ("remove", "c"))
        session = self.check_taken_back(trunk, 1, ())
        self.assertEqual(trunk.submit(session, 0), ("accepted", 2))

    def test_taking_back_what_took_back(self):
        trunk = self.trunk()
        self.accept(trunk, ("remove", "a"))
        self.assertEqual(self.submit(trunk, trunk.take_back(1, "back")), ("accepted", 2))
        session = self.check_taken_back(trunk, 2, (("read", "a"), ("remove", "a")))
        self.assertEqual(self.submit(trunk, session), ("accepted", 3))
        self.assertEqual(trunk.tree(3).files(), FILES[1:])

    def test_it_goes_on_like_any_session(self):
        trunk = self.trunk()
        self.write(trunk, "a", "n")
        session = trunk.take_back(1, "back")
        self.assertEqual(trunk.act(session, 2, ("read", "a")), lines("x"))
        self.check_raises(trunk, WrongPosition, trunk.submit, session, 2)
        self.assertEqual(trunk.submit(session, 3), ("accepted", 2))

    def test_an_inverse_of_40_actions_and_of_more(self):
        trunk = self.trunk(files=())
        trunk.append("me", [("write", "a", (str(k % 2),)) for k in range(20)])
        trunk.append("me", [("write", "b", (str(k % 2),)) for k in range(21)])
        trunk.append("me", [("write", "a", ())] * 19 + [("move", "a", "c")])
        trunk.append("me", [("write", "c", ())] * 20 + [("move", "c", "a")])
        session = trunk.take_back(1, "back")
        self.assertEqual(len(trunk.journal(session)), 40)
        self.check_raises(trunk, JournalFull, trunk.act, session, 40, ("read", "a"))
        self.check_raises(trunk, JournalFull, trunk.take_back, 2, "back")
        self.assertEqual(len(trunk.journal(trunk.take_back(3, "back"))), 39)
        self.check_raises(trunk, JournalFull, trunk.take_back, 4, "back")

    def test_the_first_error_counts(self):
        trunk = self.trunk(files=())
        trunk.append("me", [("write", "b", ())] * 21)
        trunk.append("me", ())
        for _ in range(6):
            trunk.begin("me")
        for version in (-1, 0, 3, 4, 200):
            self.check_raises(trunk, "version", trunk.take_back, version, "back")
            self.check_raises(trunk, "version", trunk.take_back, version, "")
        for name in BAD_NAMES:
            self.check_raises(trunk, "name", trunk.take_back, 1, name)
            self.check_raises(trunk, "name", trunk.take_back, 2, name)
        self.check_raises(trunk, JournalFull, trunk.take_back, 1, "back")
        self.check_raises(trunk, TooManySessions, trunk.take_back, 2, "back")

    def test_an_inverse_of_many_files(self):
        trunk = self.trunk(files=FULL)
        trunk.append("me", [("remove", path) for path, _ in FULL])
        session = trunk.take_back(1, "back")
        self.assertEqual(len(trunk.journal(session)), 40)
        self.assertEqual(trunk.submit(session, 40), ("accepted", 2))
        self.assertEqual(trunk.tree(2).files(), FULL)


def told_of_session_without_standing(trunk, session):
    return told_of(trunk)[3][session][:-1]


class Lists(TrunkCase):
    def test_every_list_is_new(self):
        trunk = self.trunk(patience=1)
        session = self.begun(trunk, "me", ("read", "a"))
        self.write(trunk, "a", "n")
        self.submit(trunk, session)
        trunk.require("c", passing(("count", ""), ("many", 3)))
        self.write(trunk, "b", "n")
        for call in (trunk.line, trunk.checks, lambda: trunk.verdicts("c")):
            told = call()
            self.assertIs(type(told), list)
            self.assertEqual(len(told), 1)
            told.clear()
            self.assertEqual(len(call()), 1)
            call().append(call()[0])
            self.assertEqual(len(call()), 1)


class Interface(unittest.TestCase):
    METHODS = {
        "__init__": ["tree", "patience", "allowance"],
        "version": [],
        "tree": ["version"],
        "entry": ["version"],
        "append": ["name", "actions"],
        "begin": ["name"],
        "take_back": ["version", "name"],
        "close": ["session"],
        "act": ["session", "position", "action"],
        "standing": ["session"],
        "submit": ["session", "position"],
        "state": ["session"],
        "name": ["session"],
        "base": ["session"],
        "refusals": ["session"],
        "journal": ["session"],
        "sight": ["session"],
        "place": ["session"],
        "is_protected": ["session"],
        "line": [],
        "require": ["name", "check"],
        "drop": ["name"],
        "checks": [],
        "verdicts": ["name"],
        "runs": [],
    }

    def test_each_method_stands_in_the_class(self):
        self.assertEqual(Trunk.__module__, "sameanswers.trunk")
        for name, parameters in self.METHODS.items():
            with self.subTest(name=name):
                self.assertIn(name, vars(Trunk))
                self.assertEqual(list(inspect.signature(vars(Trunk)[name]).parameters), ["self"] + parameters)


if __name__ == "__main__":
    unittest.main()
