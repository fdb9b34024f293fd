"""Points 25, 26 and 32: the required checks of a trunk, their kept verdicts and their runs."""

import unittest

from sameanswers.checks import verdict
from sameanswers.errors import NoCheck, TooManyChecks
from sameanswers.journals import holds
from tests.trunks import FAIL, PASS, TrunkCase, lines, passing

NEVER = (FAIL,)
ALWAYS = (PASS,)
READ_A = ("read", "a")
# Passes if the file a has one of three rows of lines, or if it is not there and there are two files.
DEEP = (
    ("ask", READ_A, ((lines("x"), 2), (lines("n"), 2), (lines("m"), 2), (("none",), 1)), 3),
    ("ask", ("count", ""), ((("many", 2), 2),), 3),
    PASS,
    FAIL,
)


class Requiring(TrunkCase):
    def test_checks_by_rising_names(self):
        trunk = self.trunk()
        self.assertEqual(trunk.checks(), [])
        for name in ("b", "a0", "9", "a"):
            self.assertIsNone(trunk.require(name, ALWAYS))
            self.assertEqual(trunk.verdicts(name), [])
        self.assertEqual(trunk.checks(), ["9", "a", "a0", "b"])
        self.assertIsNone(trunk.drop("a0"))
        self.assertEqual(trunk.checks(), ["9", "a", "b"])
        self.assertEqual(trunk.runs(), 0)

    def test_4_checks_and_a_fifth(self):
        trunk = self.trunk()
        for name in ("a", "b", "c", "d"):
            trunk.require(name, NEVER)
        self.check_raises(trunk, TooManyChecks, trunk.require, "e", ALWAYS)
        self.check_raises(trunk, "name", trunk.require, "", ALWAYS)
        self.check_raises(trunk, "check", trunk.require, "e", ())
        # In the place of one of the same name there is room.
        for name in ("a", "b", "c", "d"):
            trunk.require(name, ALWAYS)
        self.assertEqual(trunk.submit(trunk.begin("me"), 0), ("accepted", 1))
        self.check_raises(trunk, TooManyChecks, trunk.require, "e", ALWAYS)
        trunk.drop("b")
        trunk.require("e", NEVER)
        self.assertEqual(trunk.checks(), ["a", "c", "d", "e"])
        self.check_raises(trunk, TooManyChecks, trunk.require, "b", ALWAYS)
        self.assertEqual(trunk.submit(trunk.begin("me"), 0), ("failed", ("e",)))

    def test_bad_names_and_bad_checks(self):
        trunk = self.trunk()
        trunk.require("c", ALWAYS)
        bad_checks = (
            (),
            (("stop",),),
            (("ask", READ_A, (), 1),),
            (("ask", ("read", ""), (), 1), PASS),
            (("ask", ("remove", "a"), (), 1), PASS),
            (("act", READ_A, (), 1), PASS),
            (("ask", READ_A, (), 2), PASS),
            (PASS,) * 25,
        )
        for name in ("", "A", "a/b", "abcdefghi"):
            self.check_raises(trunk, "name", trunk.require, name, ALWAYS)
            self.check_raises(trunk, "name", trunk.require, name, ())
        for check in bad_checks:
            self.check_raises(trunk, "check", trunk.require, "d", check)
            self.check_raises(trunk, "check", trunk.require, "c", check)

    def test_names_that_no_check_has(self):
        trunk = self.trunk()
        for name in ("a", "", "A"):
            self.check_raises(trunk, NoCheck, trunk.drop, name)
            self.check_raises(trunk, NoCheck, trunk.verdicts, name)
        trunk.require("a", ALWAYS)
        self.check_raises(trunk, NoCheck, trunk.drop, "b")
        self.check_raises(trunk, NoCheck, trunk.verdicts, "b")
        trunk.drop("a")
        self.check_raises(trunk, NoCheck, trunk.drop, "a")
        self.check_raises(trunk, NoCheck, trunk.verdicts, "a")


class Verdicts(TrunkCase):
    def check_verdicts(self, trunk, name, *told):
        self.assertEqual(trunk.verdicts(name), list(told))

    def test_a_run_is_kept_as_the_newest_one(self):
        trunk = self.trunk()
        trunk.require("c", DEEP)
        told = []
        for row in ("n", "q", "m", "z"):
            session = self.begun(trunk, "me", ("write", "a", (row,)))
            result = trunk.submit(session, 1)
            passed = row in "nm"
            self.assertEqual(result[0], "accepted" if passed else "failed")
            told.insert(0, (passed, ((READ_A, lines(row)),)))
            self.check_verdicts(trunk, "c", *told)
            self.assertEqual(trunk.runs(), len(told))

    def test_a_verdict_that_is_sure_saves_a_run(self):
        trunk = self.trunk()
        trunk.require("c", DEEP)
        self.write(trunk, "b", "1")
        self.assertEqual(trunk.runs(), 1)
        self.write(trunk, "b", "2")
        self.write(trunk, "c", "3")
        self.assertEqual(trunk.runs(), 1)
        self.check_verdicts(trunk, "c", (True, ((READ_A, lines("x")),)))
        self.accept(trunk, ("remove", "c"), ("remove", "a"))
        journal = ((READ_A, ("none",)), (("count", ""), ("many", 2)))
        self.check_verdicts(trunk, "c", (True, journal), (True, ((READ_A, lines("x")),)))
        self.assertEqual(trunk.runs(), 2)

    def test_a_kept_verdict_that_did_not_pass_counts_too(self):
        trunk = self.trunk()
        trunk.require("c", DEEP)
        session = self.begun(trunk, "me", ("write", "a", ("q",)))
        for _ in range(3):
            self.assertEqual(trunk.submit(session, 1), ("failed", ("c",)))
        self.assertEqual(trunk.runs(), 1)
        self.do(trunk, session, ("write", "b", ()))
        self.assertEqual(trunk.submit(session, 2), ("failed", ("c",)))
        self.assertEqual(trunk.runs(), 1)
        self.check_verdicts(trunk, "c", (False, ((READ_A, lines("q")),)))

    def test_a_kept_verdict_keeps_its_place_when_it_counts(self):
        trunk = self.trunk()
        trunk.require("c", DEEP)
        for row in ("n", "m", "n", "n", "m"):
            self.write(trunk, "a", row)
        self.assertEqual(trunk.runs(), 2)
        self.check_verdicts(trunk, "c", (True, ((READ_A, lines("m")),)), (True, ((READ_A, lines("n")),)))

    def test_at_most_5_are_kept(self):
        trunk = self.trunk()
        trunk.require("c", DEEP)
        session = trunk.begin("me")
        rows = [f"q{k}" for k in range(7)]
        for many, row in enumerate(rows, start=1):
            self.do(trunk, session, ("write", "a", (row,)))
            self.assertEqual(self.submit(trunk, session), ("failed", ("c",)))
            kept = rows[:many][::-1][:5]
            self.check_verdicts(trunk, "c", *[(False, ((READ_A, lines(row)),)) for row in kept])
            self.assertEqual(trunk.runs(), many)
        # The third row from the first on is kept still, the second one is run anew.
        self.do(trunk, session, ("write", "a", (rows[2],)))
        self.submit(trunk, session)
        self.assertEqual(trunk.runs(), 7)
        self.do(trunk, session, ("write", "a", (rows[1],)))
        self.submit(trunk, session)
        self.assertEqual(trunk.runs(), 8)
        kept = [rows[1], rows[6], rows[5], rows[4], rows[3]]
        self.check_verdicts(trunk, "c", *[(False, ((READ_A, lines(row)),)) for row in kept])

    def test_every_check_is_looked_at_and_has_verdicts_of_its_own(self):
        trunk = self.trunk()
        trunk.require("a", passing(READ_A, lines("x")))
        trunk.require("b", NEVER)
        trunk.require("c", passing(("count", ""), ("many", 3)))
        session = self.begun(trunk, "me", ("write", "a", ("q",)))
        self.assertEqual(trunk.submit(session, 1), ("failed", ("a", "b")))
        self.assertEqual(trunk.runs(), 3)
        self.check_verdicts(trunk, "a", (False, ((READ_A, lines("q")),)))
        self.check_verdicts(trunk, "b", (False, ()))
        self.check_verdicts(trunk, "c", (True, ((("count", ""), ("many", 3)),)))
        self.do(trunk, session, ("write", "c", ()))
        self.assertEqual(trunk.submit(session, 2), ("failed", ("a", "b", "c")))
        self.assertEqual(trunk.runs(), 4)

    def test_a_check_that_asks_nothing_runs_once(self):
        trunk = self.trunk()
        trunk.require("c", ALWAYS)
        for k in range(4):
            self.write(trunk, "a", str(k))
        self.assertEqual(trunk.runs(), 1)
        self.check_verdicts(trunk, "c", (True, ()))

    def test_verdicts_are_kept_as_long_as_the_check_is_required(self):
        trunk = self.trunk()
        trunk.require("c", DEEP)
        trunk.require("d", ALWAYS)
        self.write(trunk, "b", "1")
        self.assertEqual(trunk.runs(), 2)
        trunk.require("c", passing(READ_A, lines("n")))
        self.check_verdicts(trunk, "c")
        self.assertEqual(len(trunk.verdicts("d")), 1)
        session = self.begun(trunk, "me", ("write", "b", ("2",)))
        self.assertEqual(trunk.submit(session, 1), ("failed", ("c",)))
        self.assertEqual(trunk.runs(), 3)
        trunk.drop("c")
        self.assertEqual(trunk.runs(), 3)
        trunk.require("c", DEEP)
        self.check_verdicts(trunk, "c")
        self.assertEqual(trunk.submit(session, 1), ("accepted", 2))
        self.assertEqual(trunk.runs(), 4)
        # Even the same check begins anew.
        trunk.require("c", DEEP)
        self.check_verdicts(trunk, "c")

    def test_only_what_is_neither_refused_nor_waiting_is_looked_at(self):
        trunk = self.trunk(patience=1)
        trunk.require("c", DEEP)
        slow = self.begun(trunk, "slow", ("read", "b"))
        self.write(trunk, "b", "1")
        runs = trunk.runs()
        self.assertEqual(self.submit(trunk, slow)[0], "refused")
        self.do(trunk, slow, ("read", "a"))
        session = self.begun(trunk, "me", ("write", "a", ("n",)))
        self.assertEqual(trunk.submit(session, 1), ("waiting",))
        trunk.append("other", (("write", "a", ("m",)),))
        trunk.standing(slow)
        self.assertEqual(trunk.runs(), runs)

    def test_the_verdict_is_that_of_a_run_on_the_candidate(self):
        trunk = self.trunk()
        trunk.require("c", DEEP)
        for k, action in enumerate((("remove", "a"), ("move", "b", "a"), ("write", "a", ("n",)), ("remove", "d/e"))):
            session = self.begun(trunk, "me", action)
            tree = trunk.sight(session)
            result = trunk.submit(session, 1)
            told = verdict(DEEP, tree)
            self.assertEqual(result[0], "accepted" if told[0] else "failed")
            sure = [kept for kept in trunk.verdicts("c") if holds(kept[1], tree)]
            self.assertEqual(sure[:1], [told], k)


if __name__ == "__main__":
    unittest.main()
