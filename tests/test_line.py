"""Point 30: the line of a trunk, its patience and its allowance, and who is protected."""

import unittest

from tests.trunks import FAIL, TrunkCase, lines, told_of


class LineCase(TrunkCase):
    def setUp(self):
        self.made = None
        self.written = 0

    def start(self, patience=1, allowance=3):
        self.made = self.trunk(patience, allowance)
        return self.made

    def change(self, path):
        """Makes a version by append in which the file has other lines than ever before."""
        self.written += 1
        self.made.append("other", (("write", path, (f"line {self.written}",)),))

    def refuse(self, session, path="b"):
        """Lets the session be refused, since the file that it reads last has changed."""
        self.do(self.made, session, ("read", path))
        self.change(path)
        result = self.submit(self.made, session)
        self.assertEqual(result[0], "refused")

    def refused(self, path="b"):
        """A new session that was refused once."""
        session = self.made.begin("me")
        self.refuse(session, path)
        return session

    def check_line(self, *sessions, protected=None):
        trunk = self.made
        self.assertEqual(trunk.line(), list(sessions))
        for session, told in enumerate(told_of(trunk)[3]):
            place = sessions.index(session) if session in sessions else None
            self.assertEqual((session, trunk.place(session), told[6]), (session, place, place))
            self.assertIs(trunk.is_protected(session), session == protected)

    def three_in_line(self):
        trunk = self.made
        paths = ("a", "b", "d/e")
        sessions = [self.begun(trunk, "me", ("read", path)) for path in paths]
        trunk.append("other", [("write", path, ("n",)) for path in paths])
        for session in sessions:
            self.assertEqual(trunk.submit(session, 1)[0], "refused")
        self.check_line(*sessions, protected=sessions[0])
        return sessions

    def waits(self, path, times=1):
        """So many submissions, each of which has to wait, since it would change what the protected one has read."""
        trunk = self.made
        session = self.begun(trunk, "me", ("write", path, ("wait",)))
        for _ in range(times):
            self.assertEqual(trunk.submit(session, 1), ("waiting",))
        trunk.close(session)


class Joining(LineCase):
    def test_at_the_patience(self):
        for patience in range(1, 10):
            self.start(patience)
            session = self.made.begin("me")
            for many in range(1, patience):
                self.refuse(session)
                self.assertEqual(self.made.refusals(session), many)
                self.check_line()
            self.refuse(session)
            self.assertEqual(self.made.refusals(session), patience)
            self.check_line(session, protected=session)

    def test_at_its_end_and_not_protected(self):
        trunk = self.start(allowance=9)
        one, two, three = [self.begun(trunk, "me", ("read", path)) for path in ("a", "b", "d/e")]
        trunk.append("other", [("write", path, ("n",)) for path in ("a", "b", "d/e")])
        for session, line in ((two, (two,)), (three, (two, three)), (one, (two, three, one))):
            self.assertEqual(trunk.submit(session, 1)[0], "refused")
            self.check_line(*line, protected=two)

    def test_a_refused_session_in_the_line_keeps_its_place(self):
        trunk = self.start(allowance=9)
        one, two = [self.begun(trunk, "me", ("read", path)) for path in ("a", "b")]
        trunk.append("other", [("write", path, ("n",)) for path in ("a", "b")])
        trunk.submit(one, 1)
        trunk.submit(two, 1)
        self.check_line(one, two, protected=one)
        self.do(trunk, two, ("read", "b"))
        self.write(trunk, "b", "m")
        self.assertEqual(trunk.submit(two, 1), ("refused", 0, lines("m"), 2))
        self.assertEqual(trunk.refusals(two), 2)
        self.check_line(one, two, protected=one)

    def test_sessions_without_enough_refusals_do_not_join(self):
        trunk = self.start(patience=2, allowance=9)
        one, two = trunk.begin("me"), trunk.begin("me")
        self.refuse(one)
        self.refuse(two)
        self.check_line()
        self.refuse(one)
        self.check_line(one, protected=one)
        self.assertEqual([trunk.refusals(one), trunk.refusals(two)], [2, 1])

    def test_failing_and_waiting_are_no_refusals(self):
        trunk = self.start(allowance=9)
        trunk.require("no", (FAIL,))
        session = self.begun(trunk, "me", ("write", "b", ("me",)))
        for _ in range(3):
            self.assertEqual(trunk.submit(session, 1), ("failed", ("no",)))
        self.assertEqual(trunk.refusals(session), 0)
        self.check_line()
        trunk.drop("no")
        slow = self.refused("a")
        self.do(trunk, slow, ("read", "b"))
        for _ in range(3):
            self.assertEqual(trunk.submit(session, 1), ("waiting",))
        self.assertEqual(trunk.refusals(session), 0)
        self.check_line(slow, protected=slow)


class Protection(LineCase):
    def test_the_first_one_is_protected_at_the_next_refusal(self):
        trunk = self.start(allowance=9)
        one, two = self.two_in_line()
        trunk.close(one)
        self.check_line(two)
        self.refuse(two)
        self.check_line(two, protected=two)

    def two_in_line(self):
        trunk = self.made
        one, two = [self.begun(trunk, "me", ("read", path)) for path in ("a", "b")]
        trunk.append("other", [("write", path, ("n",)) for path in ("a", "b")])
        self.assertEqual(trunk.submit(one, 1)[0], "refused")
        self.assertEqual(trunk.submit(two, 1)[0], "refused")
        self.check_line(one, two, protected=one)
        return one, two

    def test_a_refusal_of_a_later_one_protects_nobody(self):
        trunk = self.start(allowance=9)
        one, two = self.two_in_line()
        self.change("d/e")
        self.check_line(one, two)
        self.refuse(two)
        self.check_line(one, two)
        self.refuse(one, "a")
        self.check_line(one, two, protected=one)

    def test_the_base_of_the_protected_one_follows_the_acceptances(self):
        trunk = self.start()
        slow = self.refused("a")
        self.do(trunk, slow, ("read", "a"), ("write", "c", ("me",)))
        journal = trunk.journal(slow)
        for version in range(2, 12):
            self.write(trunk, "b", str(version))
            self.assertEqual(trunk.base(slow), version)
            self.assertEqual(trunk.journal(slow), journal)
            self.assertEqual(trunk.sight(slow).lines("b"), (str(version),))
            self.assertEqual(trunk.sight(slow).lines("c"), ("me",))
            self.check_line(slow, protected=slow)
        self.assertEqual(trunk.refusals(slow), 1)
        self.assertEqual(trunk.submit(slow, 2), ("accepted", 12))
        self.check_line()

    def test_the_base_of_others_in_the_line_stays(self):
        trunk = self.start()
        one, two = self.two_in_line()
        self.write(trunk, "d/e", "n")
        self.assertEqual([trunk.base(one), trunk.base(two)], [2, 1])
        self.check_line(one, two, protected=one)

    def test_the_base_of_the_first_one_stays_if_it_is_not_protected(self):
        trunk = self.start()
        one, two = self.two_in_line()
        trunk.close(one)
        self.write(trunk, "d/e", "n")
        self.assertEqual(trunk.base(two), 1)
        self.check_line(two)

    def test_a_session_that_is_not_protected_changes_answers_freely(self):
        trunk = self.start(allowance=9)
        one, two = self.two_in_line()
        self.do(trunk, two, ("read", "b"))
        self.write(trunk, "b", "m")
        self.check_line(one, two, protected=one)
        trunk.close(one)
        self.do(trunk, two, ("read", "d/e"))
        self.write(trunk, "d/e", "m")
        self.check_line(two)


class Leaving(LineCase):
    def test_by_being_accepted(self):
        trunk = self.start()
        one, two, three = self.three_in_line()
        self.assertEqual(trunk.submit(one, 0), ("accepted", 2))
        self.check_line(two, three)
        self.assertEqual(trunk.submit(two, 0), ("accepted", 3))
        self.check_line(three)
        self.assertEqual(trunk.submit(three, 0), ("accepted", 4))
        self.check_line()

    def test_by_being_closed(self):
        trunk = self.start()
        one, two, three = self.three_in_line()
        trunk.close(one)
        self.check_line(two, three)
        trunk.close(two)
        self.check_line(three)
        trunk.close(three)
        self.check_line()

    def test_later_ones_leave_too(self):
        trunk = self.start()
        one, two, three = self.three_in_line()
        trunk.close(two)
        self.check_line(one, three, protected=one)
        self.assertEqual(trunk.submit(three, 0), ("accepted", 2))
        self.check_line(one, protected=one)
        self.assertEqual(trunk.base(one), 2)

    def test_closing_another_session_leaves_the_line_as_it_is(self):
        trunk = self.start()
        one, two, three = self.three_in_line()
        trunk.close(trunk.begin("me"))
        self.check_line(one, two, three, protected=one)

    def test_one_that_joins_an_empty_line_again_is_protected_at_once(self):
        trunk = self.start()
        for _ in range(3):
            session = self.refused()
            self.check_line(session, protected=session)
            self.submit(trunk, session)
            self.check_line()

    def test_the_last_one_of_the_line_stays_first_and_unprotected(self):
        trunk = self.start(allowance=9)
        one, two, three = self.three_in_line()
        trunk.close(one)
        trunk.close(three)
        self.check_line(two)
        other = self.refused("a")
        # The line was not empty, so the one that joins it is not protected, nor is the first one.
        self.check_line(two, other)


class Events(LineCase):
    def test_waiting_counts_up_to_the_allowance(self):
        for allowance in range(1, 10):
            trunk = self.start(allowance=allowance)
            slow = self.refused("a")
            self.do(trunk, slow, ("read", "a"))
            session = self.begun(trunk, "me", ("write", "a", ("n",)))
            for _ in range(allowance - 1):
                self.assertEqual(trunk.submit(session, 1), ("waiting",))
                self.check_line(slow, protected=slow)
                self.assertEqual(trunk.refusals(slow), 1)
            self.assertEqual(trunk.submit(session, 1), ("waiting",))
            self.check_line()
            self.assertEqual(told_of(trunk)[3][slow][:4], ("open", "me", 1, 0))
            self.assertEqual(len(trunk.journal(slow)), 1)
            # Nobody is protected any longer, so the same submission is accepted now.
            self.assertEqual(trunk.submit(session, 1), ("accepted", 2))
            self.assertEqual(trunk.submit(slow, 1), ("refused", 0, lines("n"), 2))
            self.assertEqual(trunk.refusals(slow), 1)
            self.check_line(slow, protected=slow)

    def unprotected(self, trunk, path="b"):
        """A session that is the first one in the line and not protected; no events have been counted for it."""
        one, two = [self.begun(trunk, "me", ("read", path)) for _ in range(2)]
        self.change(path)
        self.submit(trunk, one)
        self.submit(trunk, two)
        trunk.close(one)
        self.check_line(two)
        return two

    def test_acceptances_count_for_a_first_one_that_is_not_protected(self):
        for allowance in range(1, 10):
            trunk = self.start(allowance=allowance)
            two = self.unprotected(trunk)
            for many in range(1, allowance):
                self.write(trunk, "d/e", str(many))
                self.check_line(two)
                self.assertEqual(trunk.refusals(two), 1)
            self.write(trunk, "d/e", "n")
            self.check_line()
            self.assertEqual(told_of(trunk)[3][two][:4], ("open", "me", 1, 0))

    def test_acceptances_do_not_count_for_a_protected_one(self):
        trunk = self.start(allowance=1)
        slow = self.refused("a")
        for k in range(12):
            self.write(trunk, "b", str(k))
            self.check_line(slow, protected=slow)

    def test_its_own_acceptance_is_no_event(self):
        trunk = self.start(allowance=1)
        slow = self.refused("a")
        self.assertEqual(self.submit(trunk, slow), ("accepted", 2))
        self.assertEqual(trunk.refusals(slow), 1)
        two = self.unprotected(trunk)
        self.assertEqual(self.submit(trunk, two), ("accepted", 4))
        self.assertEqual(trunk.refusals(two), 1)
        self.check_line()

    def test_events_before_and_behind_the_protection_add_up(self):
        trunk = self.start(allowance=4)
        two = self.unprotected(trunk, "a")
        self.write(trunk, "d/e", "1")
        self.do(trunk, two, ("read", "a"))
        self.write(trunk, "a", "2")
        self.assertEqual(self.submit(trunk, two)[0], "refused")
        self.check_line(two, protected=two)
        self.do(trunk, two, ("read", "a"))
        self.waits("a")
        self.check_line(two, protected=two)
        self.assertEqual(trunk.refusals(two), 2)
        self.waits("a")
        self.check_line()
        self.assertEqual(trunk.refusals(two), 0)

    def test_no_events_have_been_counted_for_the_next_one(self):
        trunk = self.start(allowance=3)
        one, two, three = self.three_in_line()
        self.do(trunk, one, ("read", "a"))
        self.waits("a", 2)
        trunk.close(one)
        self.check_line(two, three)
        self.write(trunk, "a", "1")
        self.write(trunk, "a", "2")
        self.check_line(two, three)
        self.write(trunk, "a", "3")
        self.check_line(three)
        self.assertEqual([trunk.refusals(two), trunk.refusals(three)], [0, 1])
        self.write(trunk, "a", "4")
        self.write(trunk, "a", "5")
        self.check_line(three)
        self.write(trunk, "a", "6")
        self.check_line()

    def test_leaving_by_the_allowance_makes_the_next_one_first(self):
        trunk = self.start(allowance=2)
        one, two, three = self.three_in_line()
        self.do(trunk, one, ("read", "a"))
        self.waits("a", 2)
        self.check_line(two, three)
        self.assertEqual([trunk.refusals(session) for session in (one, two, three)], [0, 1, 1])
        self.refuse(two)
        # The version by which it was refused was an event for it, and was appended.
        self.check_line(two, three, protected=two)

    def test_an_accepted_one_further_back_is_an_event_for_the_first_one(self):
        trunk = self.start(allowance=1)
        one, two, three = self.three_in_line()
        trunk.close(one)
        self.check_line(two, three)
        self.assertEqual(trunk.submit(three, 0), ("accepted", 2))
        self.check_line()
        self.assertEqual([trunk.refusals(two), trunk.refusals(three)], [0, 1])

    def test_an_accepted_one_further_back_lets_the_others_stand(self):
        trunk = self.start(allowance=1)
        one, two, three = self.three_in_line()
        four = self.begun(trunk, "me", ("kind", "c"))
        self.write(trunk, "c", "n")
        self.assertEqual(trunk.submit(four, 1)[0], "refused")
        self.check_line(one, two, three, four, protected=one)
        trunk.close(one)
        self.assertEqual(trunk.submit(three, 0), ("accepted", 3))
        self.check_line(four)
        self.write(trunk, "a", "z")
        self.check_line()

    def test_a_waiting_one_in_the_line_counts_for_the_first_one(self):
        trunk = self.start(allowance=2)
        one, two, three = self.three_in_line()
        self.do(trunk, one, ("read", "a"))
        self.do(trunk, two, ("write", "a", ("two",)))
        self.assertEqual(trunk.submit(two, 1), ("waiting",))
        self.check_line(one, two, three, protected=one)
        self.assertEqual(trunk.submit(two, 1), ("waiting",))
        self.check_line(two, three)
        self.assertEqual(trunk.submit(two, 1), ("accepted", 2))
        self.check_line(three)

    def test_refused_and_failed_submissions_are_no_events(self):
        trunk = self.start(patience=2, allowance=1)
        one, two = trunk.begin("me"), trunk.begin("me")
        self.refuse(one, "a")
        self.refuse(two, "a")
        late = self.begun(trunk, "me", ("read", "b"))
        self.change("b")
        self.refuse(one, "a")
        self.check_line(one, protected=one)
        self.assertEqual(self.submit(trunk, late)[0], "refused")
        self.check_line(one, protected=one)
        trunk.require("no", (FAIL,))
        self.assertEqual(self.submit(trunk, late), ("failed", ("no",)))
        self.check_line(one, protected=one)

    def test_events_are_not_counted_for_an_empty_line(self):
        trunk = self.start(allowance=2)
        for k in range(5):
            self.write(trunk, "a", str(k))
        slow = self.refused("a")
        self.do(trunk, slow, ("read", "a"))
        self.waits("a")
        self.check_line(slow, protected=slow)
        self.waits("a")
        self.check_line()

    def test_who_left_may_join_again(self):
        trunk = self.start(patience=2, allowance=1)
        slow = trunk.begin("me")
        self.refuse(slow, "a")
        self.refuse(slow, "a")
        self.do(trunk, slow, ("read", "a"))
        self.check_line(slow, protected=slow)
        self.waits("a")
        self.check_line()
        self.assertEqual(trunk.refusals(slow), 0)
        self.write(trunk, "a", "1")
        self.assertEqual(self.submit(trunk, slow)[0], "refused")
        self.assertEqual(trunk.refusals(slow), 1)
        self.check_line()
        self.refuse(slow, "a")
        self.check_line(slow, protected=slow)


class Appending(LineCase):
    def test_a_protected_one_is_so_no_longer_and_its_base_stays(self):
        trunk = self.start(allowance=3)
        slow = self.refused("a")
        self.do(trunk, slow, ("read", "a"))
        trunk.append("other", ())
        self.check_line(slow)
        self.assertEqual([trunk.base(slow), trunk.refusals(slow)], [1, 1])
        session = self.begun(trunk, "me", ("write", "a", ("n",)))
        self.assertEqual(trunk.submit(session, 1), ("accepted", 3))
        self.assertEqual(trunk.base(slow), 1)
        self.assertEqual(trunk.submit(slow, 1), ("refused", 0, lines("n"), 3))
        self.check_line(slow, protected=slow)

    def test_it_counts_as_an_event(self):
        for allowance in range(1, 10):
            trunk = self.start(allowance=allowance)
            slow = self.refused("a")
            for _ in range(allowance - 1):
                trunk.append("other", ())
                self.check_line(slow)
                self.assertEqual(trunk.refusals(slow), 1)
            trunk.append("other", ())
            self.check_line()
            self.assertEqual([trunk.state(slow), trunk.refusals(slow), trunk.base(slow)], ["open", 0, 1])

    def test_events_by_waiting_and_by_append_add_up(self):
        trunk = self.start(allowance=3)
        slow = self.refused("a")
        self.do(trunk, slow, ("read", "a"))
        self.waits("a", 2)
        self.check_line(slow, protected=slow)
        trunk.append("other", ())
        self.check_line()

    def test_it_changes_answers_of_a_protected_one(self):
        trunk = self.start()
        slow = self.refused("a")
        self.do(trunk, slow, ("read", "a"))
        trunk.append("other", (("write", "a", ("n",)),))
        self.check_line(slow)
        self.assertEqual(trunk.standing(slow), (0, lines("n"), 2))
        self.assertEqual(trunk.submit(slow, 1), ("refused", 0, lines("n"), 2))
        self.assertEqual(trunk.refusals(slow), 2)
        self.check_line(slow, protected=slow)

    def test_an_append_that_raises_changes_nothing(self):
        trunk = self.start(allowance=1)
        slow = self.refused("a")
        self.check_raises(trunk, "name", trunk.append, "", ())
        self.check_raises(trunk, "path", trunk.append, "me", (("read", ""),))
        self.check_line(slow, protected=slow)

    def test_with_an_empty_line(self):
        trunk = self.start(allowance=1)
        session = trunk.begin("me")
        trunk.append("other", ())
        self.assertEqual(told_of(trunk)[3][session][:4], ("open", "me", 0, 0))
        self.check_line()


class TakenBack(LineCase):
    def test_a_session_that_takes_back_joins_the_line_like_any_other(self):
        trunk = self.start()
        self.write(trunk, "a", "1")
        self.write(trunk, "a", "2")
        session = trunk.take_back(1, "back")
        self.assertEqual(self.submit(trunk, session), ("refused", 0, lines("2"), 2))
        self.check_line(session, protected=session)


if __name__ == "__main__":
    unittest.main()
