"""Points 39 to 42: opening a house, the letters to it and their answers, syncs and cuts."""

import inspect
import unittest

from sameanswers.disks import Disk
from sameanswers.errors import LogFull, NotKept, NotOpen, OutOfRange, PowerCut, TooManyChecks
from sameanswers.house import House
from sameanswers.log import open_log
from tests.houses import (
    DONE,
    FAIL,
    FILES,
    NO_BAD,
    PASS,
    READ,
    Caller,
    caller,
    formatted,
    house_on,
    lines,
    log_with,
    told_of,
    told_of_disk,
    write,
)

EPOCH = ("epoch",)
TORN = ([], [32] * 99, [31] * 99, [32, 0] * 50, [0, 32] * 50)


def accepted(desk, serial, *actions, name="me"):
    return ("accept", desk, serial, name, actions)


RECORDS = (
    EPOCH,
    accepted(1, 4, READ, write("a", "n")),
    accepted(0, 0, ("remove", "c"), name="you"),
    EPOCH,
    EPOCH,
    accepted(1, 7, ("count", ""), write("c")),
)


class HouseCase(unittest.TestCase):
    def check_raises(self, house, error, call, *told):
        before = told_of(house), house.free_blocks()
        with self.assertRaises(OutOfRange if isinstance(error, str) else error) as held:
            call(*told)
        if isinstance(error, str):
            self.assertEqual(held.exception.name, error)
        self.assertEqual((told_of(house), house.free_blocks()), before)

    def house(self, size=60, patience=2, allowance=3, checks=(), files=FILES):
        return house_on(formatted(size, files), patience, allowance, checks)

    def accept(self, house, desk, serial, *actions):
        """Makes a version, which is not synced."""
        version = house.version()
        session = caller(house, desk, serial, *actions)
        self.assertIsNone(session.submit())
        self.assertEqual(house.version(), version + 1)
        return session


class Opening(HouseCase):
    def test_on_a_new_log(self):
        disk = formatted()
        house = house_on(disk)
        self.assertEqual(told_of(house), (1, 0, 0, [FILES], [], []))
        self.assertEqual(house.free_blocks(), 60 - 3)
        self.assertEqual(disk.pending_count(), 0)
        disk.cut_power([])
        self.assertEqual(open_log(disk).records()[1:], [EPOCH])

    def test_on_a_log_with_records(self):
        disk = log_with(*RECORDS)
        house = house_on(disk)
        first = (("a", ("n",)), FILES[1])
        entries = [
            ("me", ((READ, lines("x")), (write("a", "n"), DONE))),
            ("you", ((("remove", "c"), ("missing",)),)),
            ("me", ((("count", ""), ("many", 2)), (write("c"), DONE))),
        ]
        trees = [FILES, first, first, first + (("c", ()),)]
        self.assertEqual(told_of(house), (4, 3, 3, trees, entries, [(1, 4), (0, 0), (1, 7)]))
        disk.cut_power([])
        self.assertEqual(open_log(disk).records()[1:], list(RECORDS) + [EPOCH])

    def test_each_opening_is_an_epoch(self):
        disk = formatted()
        for epoch in range(1, 10):
            house = house_on(disk)
            self.assertEqual(house.epoch(), epoch)
            self.assertEqual(house.free_blocks(), 60 - 2 - epoch)

    def test_versions_out_of_range(self):
        house = house_on(log_with(*RECORDS))
        for version in (-2, -1, 4, 5, 200):
            self.check_raises(house, "version", house.tree, version)
        for version in (-2, -1, 0, 4, 5, 200):
            self.check_raises(house, "version", house.entry, version)
            self.check_raises(house, "version", house.key, version)

    def check_refused(self, disk, error, patience, allowance, checks):
        before = told_of_disk(disk)
        with self.assertRaises(OutOfRange if isinstance(error, str) else error) as held:
            House(disk, patience, allowance, checks)
        if isinstance(error, str):
            self.assertEqual(held.exception.name, error)
        self.assertEqual(told_of_disk(disk), before)

    def test_settings_out_of_their_bounds(self):
        log = formatted()
        open_log(log).append(EPOCH)
        bad_name, bad_check = ("A", (PASS,)), ("c", ())
        five = [(f"c{k}", (PASS,)) for k in range(5)]
        # On disks with and without a log, and on a full one: the settings are looked at first.
        for disk in (log, Disk(8), log_with(*[EPOCH] * 6, size=8)):
            for number in (-1, 0, 10, 11):
                self.check_refused(disk, "patience", number, 3, [])
                self.check_refused(disk, "patience", number, 0, [bad_name])
                self.check_refused(disk, "allowance", 3, number, [])
                self.check_refused(disk, "allowance", 3, number, [bad_name])
            self.check_refused(disk, "name", 1, 1, [bad_name])
            self.check_refused(disk, "name", 1, 1, [("", ())])
            self.check_refused(disk, "check", 1, 1, [bad_check])
            self.check_refused(disk, "check", 1, 1, [NO_BAD, bad_check, bad_name])
            self.check_refused(disk, "name", 1, 1, [NO_BAD, bad_name, bad_check])
            self.check_refused(disk, TooManyChecks, 1, 1, five)
            self.check_refused(disk, TooManyChecks, 1, 1, five + [bad_name])
        House(log, 1, 9, five[:4] + five[:4])

    def test_a_disk_without_a_log(self):
        for disk in (Disk(8), Disk(400)):
            self.check_refused(disk, NotKept, 1, 1, [])

    def test_no_room_for_the_epoch(self):
        for size in (8, 20):
            disk = log_with(*[EPOCH] * (size - 3), size=size)
            open_log(disk).append(EPOCH)
            self.assertEqual(disk.pending_count(), 1)
            with self.assertRaises(LogFull):
                house_on(disk)
            # The log has been opened before that.
            self.assertEqual(disk.pending_count(), 0)
            self.assertEqual(len(open_log(disk).records()), size - 1)
        self.assertEqual(house_on(log_with(*[EPOCH] * 5, size=8)).free_blocks(), 0)

    def test_cuts_amid_the_opening(self):
        for torn in TORN:
            k = 0
            while True:
                disk = log_with(*RECORDS, size=16)
                disk.schedule_cut(k, torn)
                try:
                    house_on(disk)
                except PowerCut:
                    house = house_on(disk)
                    self.assertIn(house.epoch(), (4, 5))
                    self.assertEqual(told_of(house)[1:3], (3, 3))
                    k += 1
                else:
                    break
            # Zeros behind the records and a flush, the record of the epoch and a flush.
            self.assertEqual(k, (16 - 11) + 1 + 1 + 1)

    def test_the_settings_count(self):
        for patience in (1, 2):
            house = self.house(patience=patience, allowance=9, checks=[NO_BAD])
            one, two = caller(house, 0, 0, READ), caller(house, 1, 0, READ)
            self.accept(house, 2, 0, write("a", "1"))
            self.assertEqual(one.submit(), one.result("refused", 0, lines("1"), 1))
            one.attempt, one.position = 1, 0
            one.do(READ)
            two = caller(house, 1, 1, write("a", "2"))
            if patience == 1:
                self.assertEqual(two.submit(), two.result("waiting"))
            else:
                self.assertIsNone(two.submit())
            bad = caller(house, 2, 1, write("bad"))
            self.assertEqual(bad.submit(), bad.result("failed", ("clean",)))

    def test_no_list_is_kept(self):
        checks = [NO_BAD]
        house = House(formatted(), 1, 1, checks)
        checks.clear()
        bad = caller(house, 2, 1, write("bad"))
        self.assertEqual(bad.submit(), bad.result("failed", ("clean",)))


class OpenLetters(HouseCase):
    def test_a_session_is_opened(self):
        for desk in (0, 1, 2):
            for serial in (0, 1, 9999):
                house = self.house()
                session = Caller(house, desk, serial)
                self.assertEqual(session.open(), ("opened", desk, serial, 1))
                self.assertEqual(session.act(READ), ("answer", desk, serial, 0, 0, lines("x")))

    def test_a_second_time_nothing_is_done(self):
        house = self.house()
        session = caller(house, 0, 3, READ)
        for _ in range(3):
            self.assertEqual(session.open(), ("opened", 0, 3, 1))
        self.assertEqual(house.receive(("open", 0, 3, "other")), ("opened", 0, 3, 1))
        self.assertEqual(session.act(("read", "b")), session.answer(lines("y"), 1))
        self.assertIsNone(session.submit())
        self.assertEqual(house.entry(1), ("me", ((READ, lines("x")), (("read", "b"), lines("y")))))

    def test_a_greater_serial_closes_the_session_before(self):
        house = self.house()
        old = caller(house, 0, 3, READ)
        new = caller(house, 0, 5, READ)
        self.assertEqual(old.act(READ), old.lost())
        self.assertEqual(old.submit(), old.lost())
        self.assertIsNone(old.open())
        self.assertIsNone(house.receive(("open", 0, 4, "me")))
        self.assertIsNone(house.receive(("open", 0, 0, "me")))
        self.assertEqual(new.act(READ), new.answer(lines("x"), 1))
        self.assertIsNone(new.submit())
        self.assertEqual(house.key(1), (0, 5))

    def test_many_sessions_one_behind_the_other(self):
        house = self.house()
        for serial in range(20):
            for desk in (0, 1, 2):
                caller(house, desk, serial, READ)

    def test_each_desk_has_sessions_of_its_own(self):
        house = self.house()
        sessions = [caller(house, desk, serial, READ) for desk, serial in ((0, 7), (1, 2), (2, 0))]
        for session in sessions:
            self.assertEqual(session.open(), ("opened", session.desk, session.serial, 1))
            self.assertEqual(session.act(READ)[5], lines("x"))
        self.assertIsNone(sessions[1].submit())
        self.assertEqual(house.key(1), (1, 2))

    def test_an_accepted_session_is_told_as_opened(self):
        house = self.house()
        session = self.accept(house, 0, 3, READ)
        self.assertEqual(session.open(), ("opened", 0, 3, 1))
        self.assertEqual(caller(house, 0, 4, READ).submit(), None)
        self.assertEqual(house.version(), 2)
        self.assertIsNone(session.open())

    def test_sessions_of_elder_epochs_do_not_count(self):
        disk = formatted()
        caller(house_on(disk), 0, 9, READ)
        house = house_on(disk)
        self.assertEqual(Caller(house, 0, 3).open(), ("opened", 0, 3, 2))
        self.assertEqual(Caller(house, 0, 9).open(), ("opened", 0, 9, 2))
        self.assertIsNone(Caller(house, 0, 3).open())

    def test_of_a_serial_that_was_accepted_before(self):
        disk = log_with(accepted(0, 3, READ))
        house = house_on(disk)
        session = Caller(house, 0, 3)
        self.assertEqual(session.open(), ("opened", 0, 3, 1))
        self.assertEqual(session.act(READ), session.result("accepted", 1))
        self.assertEqual(session.submit(), session.result("accepted", 1))
        self.assertEqual(house.version(), 1)


class ActLetters(HouseCase):
    def test_the_next_position(self):
        house = self.house()
        session = caller(house, 1, 2)
        rows = ((READ, lines("x")), (write("a", "n"), DONE), (READ, lines("n")), (("remove", "z"), ("missing",)))
        for position, (action, answer) in enumerate(rows):
            self.assertEqual(session.act(action), ("answer", 1, 2, 0, position, answer))
        self.assertEqual(house.version(), 0)
        self.assertIsNone(session.submit())
        self.assertEqual(house.entry(1), ("me", rows))

    def test_a_position_before_with_the_same_action(self):
        house = self.house()
        session = caller(house, 0, 0, READ, write("a", "n"), READ)
        rows = (READ, lines("x")), (write("a", "n"), DONE), (READ, lines("n"))
        for _ in range(2):
            for position, (action, answer) in enumerate(rows):
                self.assertEqual(session.act(action, position=position), session.answer(answer, position))
        self.assertIsNone(session.submit())
        self.assertEqual(house.entry(1), ("me", rows))

    def test_a_position_before_with_another_action(self):
        house = self.house()
        session = caller(house, 0, 0, READ, write("a", "n"))
        for position, action in ((0, write("a", "n")), (0, ("read", "b")), (1, READ), (1, write("a", "m"))):
            self.assertIsNone(session.act(action, position=position))
        self.assertEqual(session.act(READ), session.answer(lines("n"), 2))

    def test_positions_behind_and_below(self):
        house = self.house()
        session = caller(house, 0, 0, READ, READ)
        for position in (-40, -2, -1, 3, 4, 40, 41):
            self.assertIsNone(session.act(READ, position=position))
        self.assertEqual(session.act(READ), session.answer(lines("x"), 2))

    def test_other_attempts(self):
        house = self.house()
        session = caller(house, 0, 0, READ)
        for attempt in (-1, 1, 2):
            for position in (0, 1):
                self.assertIsNone(session.act(READ, attempt=attempt, position=position))
        self.assertEqual(session.act(READ), session.answer(lines("x"), 1))

    def test_other_epochs_and_serials_and_desks_are_lost(self):
        house = house_on(log_with(EPOCH, EPOCH))
        session = caller(house, 0, 3, READ)
        for position in (0, 1, 2):
            for attempt in (0, 1):
                rest = {"position": position, "attempt": attempt}
                for epoch in (-1, 0, 1, 2, 4):
                    self.assertEqual(session.act(READ, epoch=epoch, **rest), session.lost(epoch=epoch))
                for serial in (0, 2, 4, 9999):
                    self.assertEqual(session.act(READ, serial=serial, **rest), session.lost(serial=serial))
                    self.assertEqual(session.submit(serial=serial, **rest), session.lost(serial=serial))
                for desk in (1, 2):
                    self.assertEqual(session.act(READ, desk=desk, **rest), session.lost(desk=desk))
                    self.assertEqual(session.submit(desk=desk, **rest), session.lost(desk=desk))
        self.assertEqual(session.act(READ), session.answer(lines("x"), 1))

    def test_40_entries_and_a_further_one(self):
        house = self.house(size=100)
        session = caller(house, 0, 0, *[READ] * 40)
        for _ in range(2):
            self.assertIsNone(session.act(READ))
            self.assertIsNone(session.act(READ, position=41))
            self.assertEqual(session.act(READ, position=39), session.answer(lines("x"), 39))
        self.assertIsNone(session.submit())
        self.assertEqual(len(house.entry(1)[1]), 40)

    def test_after_a_refusal(self):
        house = self.house()
        session = caller(house, 0, 0, ("read", "b"), READ, write("c"))
        self.accept(house, 1, 0, write("a", "n"))
        self.assertEqual(session.submit(), session.result("refused", 1, lines("n"), 1))
        for position, action in enumerate((("read", "b"), READ, write("c"))):
            self.assertIsNone(session.act(action, position=position))
        session.attempt = 1
        self.assertEqual(session.act(("read", "b"), position=0), session.answer(lines("y"), 0))
        self.assertIsNone(session.act(write("c"), position=2))
        self.assertEqual(session.act(READ, position=1), session.answer(lines("n"), 1))
        self.assertIsNone(session.submit(position=2))
        self.assertEqual(house.entry(2)[1][1], (READ, lines("n")))


class SubmitLetters(HouseCase):
    def test_accepted_and_not_yet_synced_and_then_synced(self):
        house = self.house()
        session = caller(house, 1, 3, READ, write("a", "n"))
        free = house.free_blocks()
        self.assertIsNone(session.submit())
        self.assertEqual((house.version(), house.synced(), house.key(1)), (1, 0, (1, 3)))
        self.assertEqual(house.free_blocks(), free - 2)
        for _ in range(2):
            self.assertIsNone(session.submit())
            self.assertIsNone(session.act(READ, position=0))
            self.assertIsNone(session.submit(attempt=4, epoch=7, position=0))
        self.assertEqual(house.version(), 1)
        self.assertEqual(house.sync(), 1)
        self.assertEqual(house.synced(), 1)
        for attempt in (-1, 0, 1, 5):
            for epoch in (0, 1, 2):
                for position in (0, 2, 3):
                    rest = {"attempt": attempt, "epoch": epoch, "position": position}
                    told = ("result", 1, 3, attempt, ("accepted", 1))
                    self.assertEqual(session.submit(**rest), told)
                    self.assertEqual(session.act(READ, **rest), told)
        self.assertEqual(house.version(), 1)

    def test_only_the_synced_versions_are_told(self):
        house = self.house()
        one = self.accept(house, 0, 0, write("c", "1"))
        self.assertEqual(house.sync(), 1)
        two = self.accept(house, 1, 0, write("c", "2"))
        self.assertEqual(one.submit(), one.result("accepted", 1))
        self.assertIsNone(two.submit())
        self.assertEqual((house.version(), house.synced()), (2, 1))
        self.assertEqual(house.sync(), 2)
        self.assertEqual(two.submit(), two.result("accepted", 2))
        self.assertEqual(one.submit(), one.result("accepted", 1))

    def test_the_record_of_an_accepted_session(self):
        disk = formatted()
        house = house_on(disk)
        self.accept(house, 2, 77, READ, write("c", "z"), ("remove", "q"))
        self.assertEqual(disk.pending_count(), 3)
        house.sync()
        self.assertEqual(disk.pending_count(), 0)
        self.assertEqual(open_log(disk).records()[2], accepted(2, 77, READ, write("c", "z"), ("remove", "q")))

    def test_refused_and_a_second_time(self):
        house = self.house()
        session = caller(house, 0, 0, READ, write("b", "me"))
        self.accept(house, 1, 0, write("a", "1"))
        told = session.result("refused", 0, lines("1"), 1)
        for _ in range(3):
            self.assertEqual(session.submit(), told)
        session.attempt, session.position = 1, 0
        session.do(READ)
        self.accept(house, 1, 1, write("a", "2"))
        second = session.result("refused", 0, lines("2"), 2)
        for _ in range(3):
            self.assertEqual(session.submit(), second)
        # The attempt before counts, whatever else the letter tells; those before it do not.
        self.assertEqual(session.submit(position=0), second)
        self.assertIsNone(session.submit(attempt=0, position=2))
        self.assertIsNone(session.submit(attempt=-1))
        self.assertIsNone(session.submit(attempt=3, position=0))
        session.attempt, session.position = 2, 0
        self.assertIsNone(session.submit(position=1))
        self.assertIsNone(session.submit())
        self.assertEqual(house.version(), 3)
        self.assertEqual(house.key(3), (0, 0))

    def test_waiting_and_a_second_time(self):
        house = self.house(patience=1, allowance=9)
        slow = caller(house, 0, 0, READ)
        self.accept(house, 1, 0, write("a", "1"))
        self.assertEqual(slow.submit()[4][0], "refused")
        slow.attempt, slow.position = 1, 0
        slow.do(READ)
        session = caller(house, 1, 1, write("a", "2"))
        for _ in range(3):
            self.assertEqual(session.submit(), session.result("waiting"))
        session.attempt = 1
        self.assertEqual(session.act(write("a", "2"), position=0), session.answer(DONE, 0))
        for _ in range(2):
            self.assertEqual(session.submit(), session.result("waiting"))
        self.assertIsNone(session.submit(attempt=0))
        self.assertIsNone(slow.submit())
        session.attempt = 2
        self.assertIsNone(session.submit())
        self.assertEqual([house.key(version) for version in (1, 2, 3)], [(1, 0), (0, 0), (1, 1)])

    def test_a_letter_told_twice_is_one_event(self):
        house = self.house(patience=1, allowance=2)
        slow = caller(house, 0, 0, READ)
        self.accept(house, 1, 0, write("a", "1"))
        slow.submit()
        slow.attempt, slow.position = 1, 0
        slow.do(READ)
        session = caller(house, 1, 1, write("a", "2"))
        for _ in range(5):
            self.assertEqual(session.submit(), session.result("waiting"))
        session.attempt = 1
        self.assertEqual(session.submit(), session.result("waiting"))
        session.attempt = 2
        # Only now as many events were counted as the allowance has.
        self.assertIsNone(session.submit())
        self.assertEqual(house.version(), 2)

    def test_failed_and_a_second_time(self):
        house = self.house(checks=[NO_BAD, ("never", (FAIL,))])
        session = caller(house, 2, 0, write("bad"))
        for _ in range(3):
            self.assertEqual(session.submit(), session.result("failed", ("clean", "never")))
            self.assertEqual(session.submit(position=0), session.result("failed", ("clean", "never")))
        self.assertIsNone(session.act(write("bad"), position=0))
        self.assertIsNone(session.act(READ))
        session.attempt = 1
        self.assertIsNone(session.submit())
        self.assertIsNone(session.act(write("bad"), position=0))
        self.assertIsNone(session.act(READ))
        self.assertEqual(session.open(), ("opened", 2, 0, 1))
        self.assertEqual(house.version(), 0)
        # It is closed, so that its desk begins another one.
        self.assertEqual(caller(house, 2, 1, READ).submit()[4], ("failed", ("never",)))
        session.attempt = 0
        self.assertEqual(session.submit(), session.lost())

    def test_other_positions_and_attempts(self):
        house = self.house()
        session = caller(house, 0, 0, READ, READ)
        for position in (-1, 0, 1, 3, 40):
            self.assertIsNone(session.submit(position=position))
        for attempt in (-2, -1, 1, 2):
            self.assertIsNone(session.submit(attempt=attempt))
        self.assertEqual(house.version(), 0)
        for epoch in (0, 2):
            self.assertEqual(session.submit(epoch=epoch), session.lost(epoch=epoch))
        self.assertIsNone(session.submit())
        self.assertEqual(house.version(), 1)

    def test_without_a_session(self):
        house = self.house()
        session = Caller(house, 0, 0)
        self.assertEqual(session.submit(), session.lost())
        self.assertEqual(session.act(READ), session.lost())
        self.assertEqual(house.version(), 0)

    def test_no_room_for_the_record(self):
        house = self.house(size=8)
        self.assertEqual(house.free_blocks(), 5)
        rest = ("x" * 20, "x" * 20, "x" * 20, "x" * 20, "x" * 20)
        session = caller(house, 0, 0, READ, write("c", *rest))
        for _ in range(2):
            self.assertIsNone(session.submit())
        self.assertEqual((house.version(), house.free_blocks()), (0, 5))
        # It has not been submitted, so that it is open still, and not refused.
        self.accept(house, 1, 0, write("a", "1"))
        self.assertEqual(house.free_blocks(), 3)
        self.assertIsNone(session.submit())
        self.assertEqual(session.act(READ), session.answer(lines("x"), 2))
        session.attempt = 1
        self.assertIsNone(session.submit())
        self.assertIsNone(session.act(READ))
        session = caller(house, 0, 1, write("c"))
        self.assertIsNone(session.submit())
        self.assertEqual((house.version(), house.free_blocks()), (2, 1))
        house.sync()
        self.assertEqual(session.submit(), session.result("accepted", 2))

    def test_200_versions(self):
        disk = log_with(*[accepted(2, serial) for serial in range(199)], size=400)
        house = house_on(disk)
        self.assertEqual(house.version(), 199)
        refused = caller(house, 1, 0, READ)
        last = caller(house, 0, 0, write("a", "1"))
        self.assertIsNone(last.submit())
        self.assertEqual(house.version(), 200)
        self.assertIsNone(refused.submit())
        refused.attempt = 1
        self.assertIsNone(refused.submit(position=0))
        further = caller(house, 2, 500, READ)
        free = house.free_blocks()
        self.assertIsNone(further.submit())
        self.assertEqual((house.version(), house.free_blocks()), (200, free))
        self.assertEqual(further.act(READ), further.answer(lines("1"), 1))
        house.sync()
        self.assertEqual(last.submit(), last.result("accepted", 200))
        self.assertIsNone(further.submit())
        self.assertEqual(told_of(house_on(disk))[1:3], (200, 200))


class Bounds(HouseCase):
    def test_in_their_order(self):
        house = self.house()
        session = caller(house, 0, 0, READ)
        bad = ("read", "A")
        for desk in (-1, 3, 4, 100):
            for serial in (0, -1, 10000):
                self.check_raises(house, "desk", house.receive, ("open", desk, serial, ""))
                self.check_raises(house, "desk", house.receive, ("act", desk, serial, 1, 0, 1, bad))
                self.check_raises(house, "desk", house.receive, ("submit", desk, serial, 1, 0, 1))
        for serial in (-1, 10000, 20000):
            for desk in (0, 1, 2):
                self.check_raises(house, "serial", house.receive, ("open", desk, serial, ""))
                self.check_raises(house, "serial", house.receive, ("act", desk, serial, 1, 0, 1, bad))
                self.check_raises(house, "serial", house.receive, ("submit", desk, serial, 1, 0, 1))
        for name in ("", "A", "a/b", "abcdefghi"):
            for serial in (0, 1):
                self.check_raises(house, "name", house.receive, ("open", 0, serial, name))
        for action, name in ((bad, "path"), (("find", "", ""), "word"), (("splice", "a", (), ()), "old")):
            for serial, epoch in ((0, 1), (0, 2), (1, 1)):
                self.check_raises(house, name, house.receive, ("act", 0, serial, epoch, 0, 1, action))
        # Nothing of that has changed the session.
        self.assertEqual(session.act(READ), session.answer(lines("x"), 1))
        self.assertIsNone(session.submit())

    def test_an_action_is_looked_at_before_the_log(self):
        house = house_on(log_with(accepted(0, 0)))
        self.check_raises(house, "path", house.receive, ("act", 0, 0, 1, 0, 0, ("read", "")))


class Anew(HouseCase):
    def test_elder_epochs_are_lost(self):
        disk = formatted()
        house = house_on(disk)
        session = caller(house, 0, 0, READ)
        house = session.house = house_on(disk)
        self.assertEqual(house.epoch(), 2)
        for epoch in (0, 1, 3):
            self.assertEqual(session.act(READ, epoch=epoch), session.lost(epoch=epoch))
            self.assertEqual(session.submit(epoch=epoch), session.lost(epoch=epoch))
        self.assertEqual(session.act(READ, epoch=2), session.lost(epoch=2))
        self.assertEqual(session.open(), ("opened", 0, 0, 2))
        self.assertEqual(session.act(READ), session.lost())
        self.assertEqual(session.act(READ, epoch=2, position=0), session.answer(lines("x"), 0))

    def test_sessions_that_were_accepted_are_told(self):
        disk = formatted()
        house = house_on(disk)
        session = self.accept(house, 1, 3, READ)
        for epoch in (2, 3, 4):
            house = session.house = house_on(disk)
            self.assertEqual((house.epoch(), house.version(), house.synced()), (epoch, 1, 1))
            self.assertEqual(session.submit(), session.result("accepted", 1))
            self.assertEqual(session.act(READ, position=0), session.result("accepted", 1))
            other = self.accept(house, 1, 3 + epoch, READ)
            self.assertEqual(house.key(2), (1, 3 + epoch))
            disk.cut_power([])
            house = other.house = house_on(disk)
            self.assertEqual(other.submit(), other.lost())
            disk = log_with(accepted(1, 3, READ), *[EPOCH] * epoch)

    def test_the_line_and_its_protection_are_gone(self):
        disk = formatted()
        house = house_on(disk, patience=1)
        slow = caller(house, 0, 0, READ)
        self.accept(house, 1, 0, write("a", "1"))
        slow.submit()
        house = house_on(disk, patience=1)
        self.accept(house, 1, 1, write("a", "2"))
        self.assertEqual(house.version(), 2)


class Cuts(HouseCase):
    def check_behind_a_cut(self, house, told, free):
        calls = [lambda: house.sync(), lambda: house.receive(("open", 0, 99, "me"))]
        calls.append(lambda: house.receive(("submit", 0, 0, 1, 0, 0)))
        calls.append(lambda: house.receive(("act", 5, -1, 1, 0, 0, ("read", ""))))
        calls.append(lambda: house.receive(("open", 9, 0, "")))
        for call in calls:
            with self.assertRaises(NotOpen):
                call()
        self.assertEqual((told_of(house), house.free_blocks()), (told, free))
        version = house.version()
        for call in (house.tree, house.entry, house.key):
            self.check_raises(house, "version", call, version + 1)
            self.check_raises(house, "version", call, -1)

    def test_between_the_calls(self):
        for torn in TORN:
            disk = formatted()
            house = house_on(disk)
            self.accept(house, 0, 0, write("a", "1"))
            house.sync()
            self.accept(house, 1, 0, write("a", "2"))
            told, free = told_of(house), house.free_blocks()
            self.assertEqual(told[1:3], (2, 1))
            disk.cut_power(torn)
            self.check_behind_a_cut(house, told, free)
            after = house_on(disk)
            self.assertIn(after.version(), (1, 2))
            self.assertEqual(after.version(), 2 if torn == [32] * 99 else 1)
            self.assertEqual(after.tree(1).files(), told[3][1])
            # The house of before stays as it is.
            self.check_behind_a_cut(house, told, free)

    def test_amid_the_record_of_an_accepted_session(self):
        for torn in TORN:
            for k in range(3):
                disk = formatted()
                house = house_on(disk)
                self.accept(house, 0, 0, write("a", "1"))
                session = caller(house, 1, 0, READ, write("a", "222222222222222"), ("remove", "c"))
                told, free = told_of(house), house.free_blocks()
                disk.schedule_cut(k, torn)
                with self.assertRaises(PowerCut):
                    session.submit()
                self.check_behind_a_cut(house, told, free)
                after = house_on(disk)
                self.assertLessEqual(after.version(), 1)
                session.house = after
                self.assertEqual(session.submit(), session.lost())
                self.assertEqual(after.tree(after.version()).files(), told[3][after.version()])

    def test_at_the_sync_it_may_be_there(self):
        for torn in TORN:
            disk = formatted()
            house = house_on(disk)
            session = self.accept(house, 1, 0, write("a", "1"))
            told, free = told_of(house), house.free_blocks()
            disk.schedule_cut(0, torn)
            with self.assertRaises(PowerCut):
                house.sync()
            self.check_behind_a_cut(house, told, free)
            self.assertEqual(house.synced(), 0)
            session.house = house_on(disk)
            if torn == [32] * 99:
                self.assertEqual(session.submit(), session.result("accepted", 1))
            else:
                self.assertEqual(session.submit(), session.lost())

    def test_what_needs_no_write_does_not_cut(self):
        disk = formatted()
        house = house_on(disk, patience=1)
        disk.schedule_cut(0, [])
        session = caller(house, 0, 0, READ)
        session.submit(position=5)
        session.act(READ, position=0)
        self.assertEqual(disk.cut_count(), 0)
        with self.assertRaises(PowerCut):
            session.submit()

    def test_what_was_synced_is_never_lost(self):
        for k in range(12):
            for torn in TORN:
                disk = formatted()
                house = house_on(disk)
                disk.schedule_cut(k, torn)
                versions, synced = 0, 0
                try:
                    for serial in range(9):
                        session = caller(house, serial % 3, serial, write("a", str(serial)))
                        session.submit()
                        versions += 1
                        if serial % 2:
                            synced = house.sync()
                except PowerCut:
                    pass
                self.assertEqual((disk.cut_count(), house.version(), house.synced()), (1, versions, synced))
                after = house_on(disk)
                self.assertLessEqual(synced, after.version())
                self.assertLessEqual(after.version(), versions + 1)
                for version in range(1, after.version() + 1):
                    serial = version - 1
                    self.assertEqual(after.entry(version), ("me", ((write("a", str(serial)), DONE),)))
                    self.assertEqual(after.key(version), (serial % 3, serial))


class Interface(unittest.TestCase):
    METHODS = {
        "__init__": ["disk", "patience", "allowance", "checks"],
        "receive": ["letter"],
        "sync": [],
        "epoch": [],
        "version": [],
        "synced": [],
        "free_blocks": [],
        "tree": ["version"],
        "entry": ["version"],
        "key": ["version"],
    }

    def test_each_method_stands_in_the_class(self):
        self.assertEqual(House.__module__, "sameanswers.house")
        for name, parameters in self.METHODS.items():
            with self.subTest(name=name):
                self.assertIn(name, vars(House))
                self.assertEqual(list(inspect.signature(vars(House)[name]).parameters), ["self"] + parameters)


if __name__ == "__main__":
    unittest.main()
