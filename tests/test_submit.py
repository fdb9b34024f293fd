"""Points 29 and 31: what a submission leads to, and what a session would be told."""

import unittest

from sameanswers.agents import doubter, follower, live
from sameanswers.errors import NoSession, WrongPosition
from sameanswers.journals import holds, run
from tests.trunks import DONE, FAIL, FILES, TrunkCase, lines, passing, told_of

NONE = ("none",)
NEVER = (FAIL,)
ALWAYS = (("pass",),)


class Accepted(TrunkCase):
    def test_the_journal_is_done_again_on_the_newest_version(self):
        trunk = self.trunk()
        session = self.begun(trunk, "me", ("read", "a"), ("splice", "a", ("x",), ("x", "me")))
        self.write(trunk, "b", "other")
        self.assertIsNone(trunk.standing(session))
        self.assertEqual(trunk.submit(session, 2), ("accepted", 2))
        self.assertEqual(trunk.tree(2).files(), (("a", ("x", "me")), ("b", ("other",)), FILES[2]))
        journal = ((("read", "a"), lines("x")), (("splice", "a", ("x",), ("x", "me")), DONE))
        self.assertEqual(trunk.entry(2), ("me", journal))
        self.assertEqual(trunk.state(session), "accepted")

    def test_the_same_answers_by_other_files(self):
        trunk = self.trunk()
        session = self.begun(trunk, "me", ("count", ""), ("splice", "a", ("x",), ("n",)))
        self.accept(trunk, ("remove", "b"), ("write", "c", ("z",)), ("write", "a", ("0", "x", "0")))
        self.assertEqual(self.submit(trunk, session), ("accepted", 2))
        self.assertEqual(trunk.tree(2).files(), (("a", ("0", "n", "0")), ("c", ("z",)), FILES[2]))

    def test_a_session_that_asked_and_did_nothing(self):
        trunk = self.trunk()
        session = trunk.begin("me")
        self.write(trunk, "a", "other")
        self.assertEqual(trunk.submit(session, 0), ("accepted", 2))
        self.assertTrue(trunk.tree(2).is_same(trunk.tree(1)))
        self.assertEqual(trunk.entry(2), ("me", ()))

    def test_each_acceptance_makes_the_next_version(self):
        trunk = self.trunk()
        sessions = [self.begun(trunk, f"s{k}", ("write", f"n{k}", ())) for k in range(6)]
        for version, session in enumerate((3, 0, 5, 1), start=1):
            self.assertEqual(trunk.submit(sessions[session], 1), ("accepted", version))
            self.assertEqual(trunk.entry(version)[0], f"s{session}")
        self.assertEqual(trunk.version(), 4)


class Refused(TrunkCase):
    def test_it_keeps_what_it_did_before_and_goes_on_from_there(self):
        trunk = self.trunk()
        session = self.begun(trunk, "me", ("write", "c", ("me",)), ("read", "a"), ("write", "d/f", ()), ("read", "b"))
        self.write(trunk, "a", "other")
        self.assertEqual(trunk.standing(session), (1, lines("other"), 1))
        self.assertEqual(trunk.submit(session, 4), ("refused", 1, lines("other"), 1))
        files = (("a", ("other",)), ("b", ("y",)), ("c", ("me",)), ("d/e", ()))
        told = ("open", "me", 1, 1, ((("write", "c", ("me",)), DONE),), files, None, False, None)
        self.assertEqual(told_of(trunk)[3][session], told)
        self.assertEqual(trunk.version(), 1)
        self.check_raises(trunk, WrongPosition, trunk.act, session, 4, ("read", "a"))
        self.assertEqual(trunk.act(session, 1, ("read", "a")), lines("other"))
        self.assertEqual(trunk.submit(session, 2), ("accepted", 2))
        self.assertEqual(trunk.tree(2).files(), files)

    def test_at_the_first_entry_and_at_the_last_one(self):
        trunk = self.trunk()
        first = self.begun(trunk, "me", ("read", "a"), ("read", "b"))
        last = self.begun(trunk, "me", ("read", "b"), ("read", "a"))
        self.write(trunk, "a", "other")
        self.assertEqual(trunk.submit(first, 2), ("refused", 0, lines("other"), 1))
        self.assertEqual(trunk.journal(first), ())
        self.assertEqual(trunk.submit(last, 2), ("refused", 1, lines("other"), 1))
        self.assertEqual(trunk.journal(last), ((("read", "b"), lines("y")),))
        self.assertEqual([trunk.base(first), trunk.base(last)], [1, 1])

    def test_the_first_of_several_changes(self):
        trunk = self.trunk()
        session = self.begun(trunk, "me", ("read", "d/e"), ("read", "b"), ("read", "a"))
        self.write(trunk, "a", "n")
        self.write(trunk, "b", "n")
        self.assertEqual(trunk.submit(session, 3), ("refused", 1, lines("n"), 2))

    def test_the_answer_is_that_behind_its_own_deeds(self):
        trunk = self.trunk()
        session = self.begun(trunk, "me", ("write", "c", ("x",)), ("find", "", "x"), ("remove", "b"))
        self.write(trunk, "d/x", "x")
        found = ("found", (("a", 0), ("c", 0), ("d/x", 0)))
        self.assertEqual(trunk.submit(session, 3), ("refused", 1, found, 1))

    def test_deeds_whose_answer_changes(self):
        trunk = self.trunk()
        rows = (
            (("write", "c/f", ()), ("blocked",)),
            (("remove", "a"), ("missing",)),
            (("move", "b", "c"), ("blocked",)),
            (("splice", "b", ("y",), ("z",)), ("ambiguous",)),
        )
        sessions = [self.begun(trunk, "me", action) for action, _ in rows]
        self.accept(trunk, ("move", "a", "c"), ("write", "b", ("y", "y")))
        for session, (_, answer) in zip(sessions, rows):
            self.assertEqual(trunk.submit(session, 1), ("refused", 0, answer, 1))

    def test_since_the_earliest_version_from_which_on_it_does_not_hold(self):
        trunk = self.trunk()
        session = self.begun(trunk, "me", ("read", "a"), ("read", "b"))
        self.write(trunk, "b", "n")
        self.write(trunk, "a", "n")
        self.write(trunk, "a", "m")
        self.write(trunk, "d/e", "n")
        self.assertEqual(trunk.standing(session), (0, lines("m"), 2))
        self.write(trunk, "a", "x")
        self.assertEqual(trunk.standing(session), (1, lines("n"), 1))
        self.write(trunk, "a", "k")
        self.assertEqual(trunk.standing(session), (0, lines("k"), 6))
        self.assertEqual(trunk.submit(session, 2), ("refused", 0, lines("k"), 6))

    def test_since_looks_at_the_entries_before_the_change_too(self):
        trunk = self.trunk()
        session = self.begun(trunk, "me", ("read", "a"), ("read", "b"), ("read", "d/e"))
        self.write(trunk, "a", "n")
        self.accept(trunk, ("write", "a", ("x",)), ("write", "b", ("n",)))
        # At version 1 the entry 1 has its answer, but the entry 0 has not.
        self.assertEqual(trunk.standing(session), (1, lines("n"), 1))
        self.assertEqual(trunk.submit(session, 3), ("refused", 1, lines("n"), 1))

    def test_since_does_not_look_at_the_entries_behind_the_change(self):
        trunk = self.trunk()
        session = self.begun(trunk, "me", ("read", "a"), ("read", "b"))
        self.write(trunk, "b", "n")
        self.write(trunk, "d/e", "n")
        self.accept(trunk, ("write", "a", ("n",)), ("write", "b", ("y",)))
        self.assertEqual(trunk.standing(session), (0, lines("n"), 3))

    def test_since_never_goes_behind_the_base(self):
        trunk = self.trunk()
        for _ in range(4):
            self.write(trunk, "c", "z")
        session = self.begun(trunk, "me", ("read", "c"))
        self.accept(trunk, ("remove", "c"))
        self.write(trunk, "a", "z")
        self.assertEqual(trunk.standing(session), (0, NONE, 5))
        self.assertEqual(trunk.submit(session, 1), ("refused", 0, NONE, 5))

    def test_refusals_add_up(self):
        trunk = self.trunk(patience=9)
        session = trunk.begin("me")
        for many in range(1, 5):
            self.do(trunk, session, ("read", "a"))
            self.write(trunk, "a", str(many))
            self.assertEqual(trunk.submit(session, 1), ("refused", 0, lines(str(many)), many))
            self.assertEqual(trunk.refusals(session), many)
            self.assertEqual(trunk.base(session), many)

    def test_a_refused_session_without_more_actions_is_accepted(self):
        trunk = self.trunk()
        session = self.begun(trunk, "me", ("write", "c", ()), ("read", "a"))
        self.write(trunk, "a", "n")
        self.assertEqual(trunk.submit(session, 2)[0], "refused")
        self.check_raises(trunk, WrongPosition, trunk.submit, session, 2)
        self.assertEqual(trunk.submit(session, 1), ("accepted", 2))


class NothingCameBetween(TrunkCase):
    def test_a_session_is_refused_only_if_a_version_came_behind_its_base(self):
        trunk = self.trunk()
        actions = (("read", "a"), ("write", "a", ()), ("list", ""), ("find", "", "y"), ("move", "b", "a"))
        for _ in range(3):
            session = self.begun(trunk, "me", *actions)
            self.assertIsNone(trunk.standing(session))
            self.assertEqual(self.submit(trunk, session)[0], "accepted")

    def test_sessions_that_were_closed_or_refused_are_no_versions(self):
        trunk = self.trunk()
        session = self.begun(trunk, "me", ("read", "a"), ("count", ""))
        trunk.close(self.begun(trunk, "other", ("remove", "a")))
        self.begun(trunk, "other", ("remove", "a"))
        trunk.require("no", passing(("read", "a"), lines("x")))
        self.assertEqual(trunk.submit(2, 1), ("failed", ("no",)))
        self.assertEqual(trunk.submit(session, 2), ("accepted", 1))

    def test_after_a_refusal_the_base_is_the_newest_version(self):
        trunk = self.trunk()
        session = self.begun(trunk, "me", ("read", "a"))
        self.write(trunk, "a", "n")
        self.submit(trunk, session)
        self.do(trunk, session, ("read", "a"), ("read", "b"), ("list", ""))
        self.assertEqual(trunk.submit(session, 3), ("accepted", 2))


class Waiting(TrunkCase):
    def guarded(self, trunk, *actions):
        """A session that is protected and has done these actions since."""
        session = self.begun(trunk, "slow", ("read", "b"))
        self.write(trunk, "b", "n")
        self.assertEqual(self.submit(trunk, session)[0], "refused")
        self.assertTrue(trunk.is_protected(session))
        self.do(trunk, session, *actions)
        return session

    def test_nobody_changes_an_answer_of_a_protected_session(self):
        trunk = self.trunk(patience=1)
        slow = self.guarded(trunk, ("read", "a"))
        session = self.begun(trunk, "me", ("write", "c", ()), ("write", "a", ("n",)))
        before = told_of(trunk)
        self.assertEqual(trunk.submit(session, 2), ("waiting",))
        self.assertEqual(told_of(trunk), before)
        self.assertEqual(self.submit(trunk, slow), ("accepted", 2))
        self.assertEqual(trunk.submit(session, 2), ("accepted", 3))

    def test_what_changes_no_answer_need_not_wait(self):
        trunk = self.trunk(patience=1)
        slow = self.guarded(trunk, ("splice", "a", ("x",), ("n",)))
        session = self.begun(trunk, "me", ("splice", "a", ("x",), ("x", "me")), ("write", "b", ("m",)))
        self.assertEqual(trunk.submit(session, 2), ("accepted", 2))
        self.assertEqual(trunk.base(slow), 2)
        self.assertEqual(trunk.sight(slow).lines("a"), ("n", "me"))
        self.assertEqual(self.submit(trunk, slow), ("accepted", 3))

    def test_the_candidate_counts_and_not_what_the_session_sees(self):
        trunk = self.trunk(patience=1)
        late = self.begun(trunk, "me", ("write", "c", ()))
        slow = self.guarded(trunk, ("read", "b"))
        # The session sees b as it was in version 0, but its candidate has what version 1 has.
        self.assertEqual(trunk.sight(late).lines("b"), ("y",))
        self.assertEqual(trunk.submit(late, 1), ("accepted", 2))
        self.assertEqual(trunk.base(slow), 2)

    def test_refused_comes_before_waiting(self):
        trunk = self.trunk(patience=2)
        other = self.begun(trunk, "me", ("read", "b"), ("write", "a", ("n",)))
        slow = self.begun(trunk, "slow", ("read", "b"))
        for rows in ("n", "m"):
            self.write(trunk, "b", rows)
            self.submit(trunk, slow)
            self.do(trunk, slow, ("read", "b"))
        self.do(trunk, slow, ("read", "a"))
        self.assertTrue(trunk.is_protected(slow))
        self.assertEqual(trunk.submit(other, 2), ("refused", 0, lines("m"), 1))

    def test_waiting_comes_before_failing(self):
        trunk = self.trunk(patience=1)
        self.guarded(trunk, ("read", "a"))
        trunk.require("no", NEVER)
        session = self.begun(trunk, "me", ("write", "a", ("n",)))
        self.assertEqual(trunk.submit(session, 1), ("waiting",))
        self.assertEqual(trunk.runs(), 0)
        self.assertEqual(trunk.verdicts("no"), [])

    def test_the_protected_session_neither_waits_nor_is_refused(self):
        trunk = self.trunk(patience=1, allowance=9)
        slow = self.guarded(trunk, ("read", "a"))
        for k in range(5):
            session = self.begun(trunk, "me", ("write", "a", (str(k),)))
            self.assertEqual(trunk.submit(session, 1), ("waiting",))
            trunk.close(session)
            self.write(trunk, "c", str(k))
            self.assertIsNone(trunk.standing(slow))
            self.assertEqual(trunk.base(slow), trunk.version())
        self.do(trunk, slow, ("read", "c"), ("write", "a", ("me",)))
        self.assertEqual(trunk.journal(slow)[1], (("read", "c"), lines("4")))
        self.assertEqual(trunk.submit(slow, 3), ("accepted", 7))

    def test_a_protected_session_that_fails_stays_protected(self):
        trunk = self.trunk(patience=1)
        slow = self.guarded(trunk, ("write", "a", ("n",)))
        trunk.require("no", NEVER)
        before = told_of(trunk)[:5]
        self.assertEqual(trunk.submit(slow, 1), ("failed", ("no",)))
        self.assertEqual(told_of(trunk)[:5], before)
        trunk.drop("no")
        self.assertEqual(trunk.submit(slow, 1), ("accepted", 2))


class Failed(TrunkCase):
    def test_the_names_of_all_checks_that_do_not_pass(self):
        trunk = self.trunk()
        trunk.require("c", NEVER)
        trunk.require("b", ALWAYS)
        trunk.require("d", passing(("read", "a"), lines("x")))
        trunk.require("a", passing(("count", ""), ("many", 3)))
        session = self.begun(trunk, "me", ("write", "a", ("n",)))
        before = told_of(trunk)[:5]
        self.assertEqual(trunk.submit(session, 1), ("failed", ("c", "d")))
        self.assertEqual(told_of(trunk)[:5], before)
        self.do(trunk, session, ("write", "c", ()))
        self.assertEqual(trunk.submit(session, 2), ("failed", ("a", "c", "d")))
        trunk.drop("c")
        self.do(trunk, session, ("remove", "c"), ("write", "a", ("x",)))
        self.assertEqual(trunk.submit(session, 4), ("accepted", 1))

    def test_the_candidate_is_checked(self):
        trunk = self.trunk()
        trunk.require("c", passing(("read", "b"), lines("n")))
        session = self.begun(trunk, "me", ("write", "c", ()))
        self.assertEqual(trunk.submit(session, 1), ("failed", ("c",)))
        self.write(trunk, "b", "n")
        # The session sees b as it was, but its candidate is what counts.
        self.assertEqual(trunk.submit(session, 1), ("accepted", 2))

    def test_refused_comes_before_failing(self):
        trunk = self.trunk()
        session = self.begun(trunk, "me", ("read", "a"))
        self.write(trunk, "a", "n")
        trunk.require("no", NEVER)
        self.assertEqual(trunk.submit(session, 1), ("refused", 0, lines("n"), 1))
        self.assertEqual(trunk.runs(), 0)
        self.assertEqual(trunk.submit(session, 0), ("failed", ("no",)))
        self.assertEqual(trunk.refusals(session), 1)

    def test_append_runs_no_checks(self):
        trunk = self.trunk()
        trunk.require("no", NEVER)
        self.assertEqual(trunk.append("me", (("remove", "a"),)), 1)
        self.assertEqual(trunk.runs(), 0)


class Standing(TrunkCase):
    def test_it_tells_what_submit_would_tell_and_changes_nothing(self):
        trunk = self.trunk(patience=1)
        session = self.begun(trunk, "me", ("read", "b"), ("read", "a"))
        self.assertIsNone(trunk.standing(session))
        self.write(trunk, "a", "n")
        before = told_of(trunk)
        told = trunk.standing(session)
        self.assertEqual(told, (1, lines("n"), 1))
        self.assertIs(type(told), tuple)
        self.assertEqual(told_of(trunk), before)
        self.assertEqual(trunk.submit(session, 2), ("refused",) + told)
        self.assertIsNone(trunk.standing(session))

    def test_it_tells_nothing_of_waiting_and_failing(self):
        trunk = self.trunk(patience=1)
        slow = self.begun(trunk, "slow", ("read", "b"))
        self.write(trunk, "b", "n")
        self.submit(trunk, slow)
        self.do(trunk, slow, ("read", "a"))
        trunk.require("no", NEVER)
        session = self.begun(trunk, "me", ("write", "a", ("n",)))
        self.assertIsNone(trunk.standing(session))
        self.assertIsNone(trunk.standing(slow))
        self.assertEqual(trunk.runs(), 0)

    def test_of_closed_and_accepted_sessions(self):
        trunk = self.trunk()
        closed, accepted = trunk.begin("me"), trunk.begin("me")
        trunk.close(closed)
        self.submit(trunk, accepted)
        for session in (closed, accepted, 2, -1):
            self.check_raises(trunk, NoSession, trunk.standing, session)


class Submissions(TrunkCase):
    def test_a_wrong_position_changes_nothing(self):
        trunk = self.trunk(patience=1)
        session = self.begun(trunk, "me", ("read", "b"), ("read", "a"))
        self.write(trunk, "a", "n")
        for position in (-1, 0, 1, 3, 40):
            self.check_raises(trunk, WrongPosition, trunk.submit, session, position)
        self.assertEqual(trunk.submit(session, 2), ("refused", 1, lines("n"), 1))

    def test_a_closed_session_changes_nothing(self):
        trunk = self.trunk(patience=1)
        session = self.begun(trunk, "me", ("read", "a"))
        self.write(trunk, "a", "n")
        trunk.close(session)
        for position in (0, 1, 2):
            self.check_raises(trunk, NoSession, trunk.submit, session, position)


class SameAnswers(TrunkCase):
    """Point 21 in the trunk: what is accepted is what an agent would do on the version before."""

    ACTIONS = (
        ("find", "", "x"),
        ("list", "d"),
        ("splice", "a", ("x",), ("n", "x")),
        ("write", "d/f", ("z",)),
        ("move", "b", "c/b"),
        ("kind", "c"),
    )

    def test_followers_do_the_same_and_doubters_do_not(self):
        deeds = (("remove", "a"), ("write", "d/g", ("xx",)), ("write", "c", ()), ("write", "b", ()), ("move", "a", "e"))
        cases = set()
        for deed in deeds:
            trunk = self.trunk()
            session = self.begun(trunk, "me", *self.ACTIONS)
            journal = trunk.journal(session)
            self.accept(trunk, deed)
            result = self.submit(trunk, session)
            cases.add(result[0])
            if result[0] == "accepted":
                alone, tree = live(follower(journal), trunk.tree(1))
                self.assertEqual(trunk.entry(2), ("me", alone))
                self.assertTrue(trunk.tree(2).is_same(tree))
            else:
                doubt = doubter(journal, result[1])
                self.assertEqual(live(doubt, trunk.tree(0))[0], journal)
                other, _ = live(doubt, trunk.tree(1))
                self.assertEqual(other[: result[1]], journal[: result[1]])
                self.assertEqual(other[result[1]], (journal[result[1]][0], result[2]))
                self.assertEqual(other[result[1] + 1 :], ((("write", "doubt", ()), DONE),))
        self.assertEqual(cases, {"accepted", "refused"})

    def test_the_journal_of_each_entry_holds_on_the_version_before(self):
        trunk = self.trunk()
        for k in range(3):
            session = self.begun(trunk, "me", ("read", "b"), ("splice", "a", ("x",), (str(k), "x")))
            self.write(trunk, "b", str(k))
            self.assertEqual(self.submit(trunk, session)[0], "refused")
            self.do(trunk, session, ("count", ""), ("write", "c", (str(k),)))
            self.write(trunk, "a", str(k), "x")
            self.assertEqual(self.submit(trunk, session)[0], "accepted")
        self.assertEqual(trunk.version(), 9)
        for version in range(1, trunk.version() + 1):
            _, journal = trunk.entry(version)
            self.assertTrue(holds(journal, trunk.tree(version - 1)))
            again, tree = run(trunk.tree(version - 1), [action for action, _ in journal])
            self.assertEqual(again, journal)
            self.assertTrue(trunk.tree(version).is_same(tree))


if __name__ == "__main__":
    unittest.main()
