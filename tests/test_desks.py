"""Points 43 and 44: what a desk wants, and what it hears."""

import inspect
import itertools
import unittest

from sameanswers.desks import Desk
from sameanswers.errors import AtWork, OutOfRange

STOP = ("stop",)
READ = ("read", "a")
NONE = ("none",)
DONE = ("done",)
ASKED = ("lines", ("x",))
# Reads; writes if there is none, else asks once more, and then removes unless there is still one with this line.
AGENT = (
    ("act", READ, ((NONE, 1),), 2),
    ("act", ("write", "a", ()), (), 4),
    ("act", ("kind", "a"), ((ASKED, 4),), 3),
    ("act", ("remove", "a"), (), 4),
    STOP,
)
LONG = tuple([("act", ("count", ""), (), k + 1) for k in range(23)]) + (STOP,)
BAD_AGENTS = ((), (("act", READ, (), 1),), (("act", ("read", ""), (), 1), STOP), (STOP,) * 25, (("pass",),))


def told_of(desk):
    return (desk.wanted(), desk.is_at_work(), desk.done(), desk.journal())


class DeskCase(unittest.TestCase):
    def desk(self, number=1, name="me", agent=AGENT):
        desk = Desk(number)
        desk.start(name, agent)
        return desk

    def check_counts(self, desk, letter):
        self.assertIs(desk.hear(letter), True, letter)

    def check_not(self, desk, *letters):
        """None of these letters counts, and the desk is the same afterwards."""
        before = told_of(desk)
        for letter in letters:
            self.assertIs(desk.hear(letter), False, letter)
            self.assertEqual(told_of(desk), before, letter)

    def check_raises(self, desk, error, call, *told):
        before = told_of(desk)
        with self.assertRaises(OutOfRange if isinstance(error, str) else error) as held:
            call(*told)
        if isinstance(error, str):
            self.assertEqual(held.exception.name, error)
        self.assertEqual(told_of(desk), before)

    def at_row_0(self, serial=0, epoch=5):
        """A desk whose session is opened: it wants its first action."""
        desk = self.desk()
        self.pass_serials(desk, serial)
        self.check_counts(desk, ("opened", 1, serial, epoch))
        return desk

    def pass_serials(self, desk, serial):
        """Loses as many sessions as it takes to have this serial."""
        for lost in range(serial):
            self.check_counts(desk, ("opened", 1, lost, 0))
            self.check_counts(desk, ("lost", 1, lost, 0))

    def at_end(self, serial=0, epoch=5):
        """A desk that wants to submit a journal of two entries."""
        desk = self.at_row_0(serial, epoch)
        self.check_counts(desk, ("answer", 1, serial, 0, 0, NONE))
        self.check_counts(desk, ("answer", 1, serial, 0, 1, DONE))
        return desk


class Wanting(DeskCase):
    def test_before_the_first_work(self):
        for number in (0, 1, 2):
            self.assertEqual(told_of(Desk(number)), (None, False, [], ()))

    def test_at_each_stage_the_same_until_it_hears(self):
        for number in (0, 1, 2):
            desk = Desk(number)
            self.assertEqual(desk.start("me", AGENT), 0)
            stages = (
                (("open", number, 0, "me"), ("opened", number, 0, 5)),
                (("act", number, 0, 5, 0, 0, READ), ("answer", number, 0, 0, 0, ASKED)),
                (("act", number, 0, 5, 0, 1, ("kind", "a")), ("answer", number, 0, 0, 1, ("file",))),
                (("act", number, 0, 5, 0, 2, ("remove", "a")), ("answer", number, 0, 0, 2, DONE)),
                (("submit", number, 0, 5, 0, 3), ("result", number, 0, 0, ("waiting",))),
                (("submit", number, 0, 5, 1, 3), ("result", number, 0, 1, ("accepted", 9))),
            )
            for wanted, heard in stages:
                for _ in range(3):
                    self.assertEqual(desk.wanted(), wanted)
                self.assertIs(desk.is_at_work(), True)
                self.check_counts(desk, heard)
            self.assertIs(desk.is_at_work(), False)
            self.assertIsNone(desk.wanted())

    def test_an_agent_that_stops_at_once(self):
        desk = self.desk(0, "me", (STOP, STOP))
        self.assertEqual(desk.wanted(), ("open", 0, 0, "me"))
        self.check_counts(desk, ("opened", 0, 0, 1))
        self.assertEqual(desk.wanted(), ("submit", 0, 0, 1, 0, 0))
        self.check_counts(desk, ("result", 0, 0, 0, ("accepted", 1)))
        self.assertEqual(desk.done(), [("me", 0, 1, ())])

    def test_an_agent_of_23_actions(self):
        desk = self.desk(1, "me", LONG)
        desk.hear(("opened", 1, 0, 1))
        for position in range(23):
            self.assertEqual(desk.wanted(), ("act", 1, 0, 1, 0, position, ("count", "")))
            self.check_counts(desk, ("answer", 1, 0, 0, position, ("many", position)))
        self.assertEqual(desk.wanted(), ("submit", 1, 0, 1, 0, 23))
        self.assertEqual(len(desk.journal()), 23)

    def test_the_cases_of_its_rows(self):
        desk = self.at_row_0()
        self.check_counts(desk, ("answer", 1, 0, 0, 0, NONE))
        self.assertEqual(desk.wanted(), ("act", 1, 0, 5, 0, 1, ("write", "a", ())))
        desk = self.at_row_0()
        self.check_counts(desk, ("answer", 1, 0, 0, 0, ASKED))
        self.check_counts(desk, ("answer", 1, 0, 0, 1, ASKED))
        self.assertEqual(desk.wanted(), ("submit", 1, 0, 5, 0, 2))


class Starting(DeskCase):
    def test_serials_rise_from_0(self):
        desk = Desk(1)
        for serial in range(5):
            self.assertEqual(desk.start("me", (STOP,)), serial)
            self.assertEqual(desk.wanted(), ("open", 1, serial, "me"))
            desk.hear(("opened", 1, serial, 3))
            desk.hear(("result", 1, serial, 0, ("accepted", serial + 1)))
        self.assertEqual(desk.done(), [("me", serial, serial + 1, ()) for serial in range(5)])

    def test_at_work(self):
        for desk in (self.desk(), self.at_row_0(), self.at_end()):
            for name, agent in (("other", AGENT), ("", AGENT), ("other", ())):
                self.check_raises(desk, AtWork, desk.start, name, agent)

    def test_bad_names_and_bad_agents(self):
        desk = Desk(1)
        for many in range(2):
            for name in ("", "A", "a/b", "abcdefghi"):
                self.check_raises(desk, "name", desk.start, name, AGENT)
                self.check_raises(desk, "name", desk.start, name, ())
            for agent in BAD_AGENTS:
                self.check_raises(desk, "agent", desk.start, "me", agent)
            self.assertEqual(desk.start("me", AGENT), many)
            desk.hear(("opened", 1, many, 3))
            desk.hear(("result", 1, many, 0, ("accepted", 1)))

    def test_two_works_one_behind_the_other(self):
        desk = self.at_end()
        first = ((READ, NONE), (("write", "a", ()), DONE))
        self.assertEqual(desk.journal(), first)
        self.check_counts(desk, ("result", 1, 0, 0, ("accepted", 7)))
        self.assertEqual(told_of(desk), (None, False, [("me", 0, 7, first)], first))
        self.assertEqual(desk.start("you", (("act", ("count", ""), (), 1), STOP)), 1)
        self.assertEqual(told_of(desk), (("open", 1, 1, "you"), True, [("me", 0, 7, first)], ()))
        self.check_not(desk, ("result", 1, 0, 0, ("accepted", 7)), ("opened", 1, 0, 5), ("lost", 1, 0, 5))
        self.check_counts(desk, ("opened", 1, 1, 6))
        self.assertEqual(desk.wanted(), ("act", 1, 1, 6, 0, 0, ("count", "")))
        self.check_counts(desk, ("answer", 1, 1, 0, 0, ("many", 3)))
        self.check_counts(desk, ("result", 1, 1, 0, ("failed", ("c",))))
        second = ((("count", ""), ("many", 3)),)
        self.assertEqual(desk.done(), [("me", 0, 7, first), ("you", 1, None, second)])
        self.assertEqual(desk.journal(), second)

    def test_every_list_is_new(self):
        desk = self.at_end()
        self.check_counts(desk, ("result", 1, 0, 0, ("accepted", 7)))
        told = desk.done()
        told.clear()
        desk.done().append(None)
        self.assertEqual(len(desk.done()), 1)


class Idle(DeskCase):
    def test_nothing_counts_without_a_work(self):
        finished = self.at_end()
        self.check_counts(finished, ("result", 1, 0, 0, ("accepted", 7)))
        for desk in (Desk(1), finished):
            for serial in (-1, 0, 1):
                self.check_not(
                    desk,
                    ("opened", 1, serial, 5),
                    ("answer", 1, serial, 0, 0, NONE),
                    ("answer", 1, serial, 0, 2, NONE),
                    ("result", 1, serial, 0, ("accepted", 7)),
                    ("result", 1, serial, 0, ("waiting",)),
                    ("lost", 1, serial, 5),
                )


class Hearing(DeskCase):
    def letters(self, serial):
        """A letter of each kind that counts at some stage."""
        return (
            ("opened", 1, serial, 5),
            ("lost", 1, serial, 5),
            ("answer", 1, serial, 0, 0, NONE),
            ("result", 1, serial, 0, ("accepted", 7)),
            ("result", 1, serial, 0, ("failed", ("c",))),
            ("result", 1, serial, 0, ("waiting",)),
            ("result", 1, serial, 0, ("refused", 0, ASKED, 3)),
        )

    def stages(self, serial):
        fresh = self.desk()
        self.pass_serials(fresh, serial)
        return fresh, self.at_row_0(serial), self.at_end(serial)

    def test_letters_for_another_desk_or_serial(self):
        for serial in (0, 2):
            for desk in self.stages(serial):
                for letter in self.letters(serial):
                    word, _, _, *rest = letter
                    others = [(word, other, serial, *rest) for other in (-1, 0, 2)]
                    others += [(word, 1, other, *rest) for other in (-1, 0, 1, 2, 3) if other != serial]
                    self.check_not(desk, *others)

    def test_letters_to_the_house_do_not_count(self):
        for desk in self.stages(0):
            letters = [("open", 1, 0, "me"), ("act", 1, 0, 5, 0, 0, READ), ("submit", 1, 0, 5, 0, 2)]
            self.check_not(desk, *letters)

    def test_opened_counts_without_an_epoch(self):
        for epoch in (1, 5, 99):
            for serial in (0, 3):
                desk = self.desk()
                self.pass_serials(desk, serial)
                self.assertEqual(desk.wanted(), ("open", 1, serial, "me"))
                self.check_counts(desk, ("opened", 1, serial, epoch))
                self.assertEqual(desk.wanted(), ("act", 1, serial, epoch, 0, 0, READ))
                for other in (epoch, epoch + 1, 0):
                    self.check_not(desk, ("opened", 1, serial, other))

    def test_without_an_epoch_nothing_else_counts(self):
        for serial in (0, 1):
            desk = self.desk()
            self.pass_serials(desk, serial)
            for letter in self.letters(serial)[1:]:
                self.check_not(desk, letter)
            self.check_not(desk, ("lost", 1, serial, 0), ("answer", 1, serial, 0, 1, NONE))

    def test_lost_counts_in_its_epoch(self):
        for desk in (self.at_row_0(), self.at_end()):
            for epoch in (0, 1, 4, 6):
                self.check_not(desk, ("lost", 1, 0, epoch))
            self.check_counts(desk, ("lost", 1, 0, 5))
            self.assertEqual(told_of(desk), (("open", 1, 1, "me"), True, [], ()))
            self.check_not(desk, ("lost", 1, 0, 5), ("lost", 1, 1, 5), ("opened", 1, 0, 5))
            self.check_counts(desk, ("opened", 1, 1, 6))
            self.assertEqual(desk.wanted(), ("act", 1, 1, 6, 0, 0, READ))

    def test_lost_begins_with_the_attempt_0(self):
        desk = self.at_end()
        for attempt in range(3):
            self.check_counts(desk, ("result", 1, 0, attempt, ("waiting",)))
        self.check_counts(desk, ("lost", 1, 0, 5))
        self.check_counts(desk, ("opened", 1, 1, 5))
        self.assertEqual(desk.wanted(), ("act", 1, 1, 5, 0, 0, READ))

    def test_answer_counts_with_its_attempt_and_position(self):
        desk = self.at_row_0()
        for attempt, position in itertools.product((-1, 0, 1, 2), repeat=2):
            if (attempt, position) != (0, 0):
                self.check_not(desk, ("answer", 1, 0, attempt, position, NONE))
        self.check_counts(desk, ("answer", 1, 0, 0, 0, NONE))
        self.assertEqual(desk.journal(), ((READ, NONE),))
        for attempt, position in itertools.product((-1, 0, 1, 2), repeat=2):
            if (attempt, position) != (0, 1):
                self.check_not(desk, ("answer", 1, 0, attempt, position, DONE))
        self.check_counts(desk, ("answer", 1, 0, 0, 1, DONE))
        # At the stop row no answer counts.
        for attempt, position in itertools.product((-1, 0, 1, 2), (0, 1, 2, 3)):
            self.check_not(desk, ("answer", 1, 0, attempt, position, DONE))

    def test_the_attempt_of_an_answer_after_a_refusal(self):
        desk = self.at_end()
        self.check_counts(desk, ("result", 1, 0, 0, ("refused", 0, ASKED, 3)))
        for attempt in (-1, 0, 2):
            self.check_not(desk, ("answer", 1, 0, attempt, 0, ASKED))
        self.check_counts(desk, ("answer", 1, 0, 1, 0, ASKED))
        self.assertEqual(desk.wanted(), ("act", 1, 0, 5, 1, 1, ("kind", "a")))


class Results(DeskCase):
    def test_accepted_with_any_attempt(self):
        for attempt in (-1, 0, 1, 7):
            for desk, journal in ((self.at_end(), ((READ, NONE), (("write", "a", ()), DONE))), (self.at_row_0(), ())):
                self.check_counts(desk, ("result", 1, 0, attempt, ("accepted", 4)))
                self.assertEqual(told_of(desk), (None, False, [("me", 0, 4, journal)], journal))

    def test_others_with_their_attempt_only(self):
        for result in (("failed", ("c",)), ("waiting",), ("refused", 1, ASKED, 3)):
            for waits in range(3):
                desk = self.at_end()
                for attempt in range(waits):
                    self.check_counts(desk, ("result", 1, 0, attempt, ("waiting",)))
                for attempt in (-1, 0, 1, 2, 3):
                    if attempt != waits:
                        self.check_not(desk, ("result", 1, 0, attempt, result))
                self.check_counts(desk, ("result", 1, 0, waits, result))
                self.check_not(desk, ("result", 1, 0, waits, result))

    def test_failed(self):
        desk = self.at_end(2)
        self.check_counts(desk, ("result", 1, 2, 0, ("failed", ("c", "d"))))
        journal = ((READ, NONE), (("write", "a", ()), DONE))
        self.assertEqual(told_of(desk), (None, False, [("me", 2, None, journal)], journal))

    def test_waiting(self):
        desk = self.at_end()
        for attempt in range(4):
            journal = desk.journal()
            self.assertEqual(desk.wanted(), ("submit", 1, 0, 5, attempt, 2))
            self.check_counts(desk, ("result", 1, 0, attempt, ("waiting",)))
            self.assertEqual(desk.journal(), journal)
        self.assertEqual(desk.wanted(), ("submit", 1, 0, 5, 4, 2))

    def test_refused_at_each_index(self):
        entries = ((READ, ASKED), (("kind", "a"), ("file",)), (("remove", "a"), DONE))
        for at in range(3):
            desk = self.at_row_0()
            for position, (_, answer) in enumerate(entries):
                self.check_counts(desk, ("answer", 1, 0, 0, position, answer))
            self.assertEqual(desk.journal(), entries)
            self.check_counts(desk, ("result", 1, 0, 0, ("refused", at, NONE, 3)))
            self.assertEqual(desk.journal(), entries[:at])
            self.assertEqual(desk.wanted(), ("act", 1, 0, 5, 1, at, entries[at][0]))
            self.assertIs(desk.is_at_work(), True)

    def test_refused_then_another_way_through_the_agent(self):
        desk = self.at_end()
        self.check_counts(desk, ("result", 1, 0, 0, ("refused", 0, ASKED, 3)))
        self.check_counts(desk, ("answer", 1, 0, 1, 0, ASKED))
        self.check_counts(desk, ("answer", 1, 0, 1, 1, NONE))
        self.check_counts(desk, ("answer", 1, 0, 1, 2, DONE))
        self.assertEqual(desk.wanted(), ("submit", 1, 0, 5, 1, 3))
        self.check_counts(desk, ("result", 1, 0, 1, ("accepted", 2)))
        journal = ((READ, ASKED), (("kind", "a"), NONE), (("remove", "a"), DONE))
        self.assertEqual(desk.done(), [("me", 0, 2, journal)])

    def test_the_last_serial_is_told(self):
        desk = self.at_end(3)
        self.check_counts(desk, ("result", 1, 3, 0, ("accepted", 4)))
        self.assertEqual(desk.done()[0][1], 3)
        self.assertEqual(desk.start("me", AGENT), 4)


class Interface(unittest.TestCase):
    METHODS = {
        "__init__": ["number"],
        "start": ["name", "agent"],
        "wanted": [],
        "hear": ["letter"],
        "is_at_work": [],
        "done": [],
        "journal": [],
    }

    def test_each_method_stands_in_the_class(self):
        self.assertEqual(Desk.__module__, "sameanswers.desks")
        for name, parameters in self.METHODS.items():
            with self.subTest(name=name):
                self.assertIn(name, vars(Desk))
                self.assertEqual(list(inspect.signature(vars(Desk)[name]).parameters), ["self"] + parameters)


if __name__ == "__main__":
    unittest.main()
