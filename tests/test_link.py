"""Point 45: a house and its desks, the row of letters between them, cuts and openings."""

import inspect
import unittest

from sameanswers.errors import AtWork, LogFull, NoLetter, NotOpen, OutOfRange, PowerCut, TooManyChecks
from sameanswers.link import Link
from tests.houses import DONE, FAIL, FILES, NO_BAD, PASS, READ, lines, told_of, write

STOP = ("stop",)
TORN = ([], [32] * 99, [31] * 99, [32, 0] * 50, [0, 32] * 50)


def agent(*actions):
    """Does these actions, whatever the answers are."""
    return tuple([("act", action, (), at + 1) for at, action in enumerate(actions)]) + (STOP,)


def told_of_link(link, desks=2):
    """All that a link tells."""
    works = [(link.wanted(desk), link.is_at_work(desk), link.done(desk)) for desk in range(desks)]
    return link.letters(), works, told_of(link) if link.is_open() else None


class LinkCase(unittest.TestCase):
    def link(self, desks=2, blocks=60, patience=2, allowance=3, checks=(), files=FILES):
        return Link(files, patience, allowance, list(checks), desks, blocks)

    def check_raises(self, link, error, call, *told, desks=2):
        before = told_of_link(link, desks)
        with self.assertRaises(OutOfRange if isinstance(error, str) else error) as held:
            call(*told)
        if isinstance(error, str):
            self.assertEqual(held.exception.name, error)
        self.assertEqual(told_of_link(link, desks), before)

    def turn(self, link, desk):
        """Sends what the desk wants, and delivers it and its answer: whether the answer counted."""
        self.assertIs(link.send(desk), True)
        if not link.deliver(len(link.letters()) - 1):
            return False
        return link.deliver(len(link.letters()) - 1)

    def finish(self, link, desk):
        """Turns until the work of the desk is done."""
        while link.is_at_work(desk):
            if not self.turn(link, desk):
                link.sync()
        return link.done(desk)[-1]

    def work(self, link, desk, *actions, name="me"):
        link.start(desk, name, agent(*actions))
        return self.finish(link, desk)


class Making(LinkCase):
    def test_a_new_link(self):
        for desks in (1, 2, 3):
            for blocks in (8, 400):
                link = self.link(desks, blocks)
                told = ([], [(None, False, [])] * desks, (1, 0, 0, [FILES], [], []))
                self.assertEqual(told_of_link(link, desks), told)
                self.assertIs(link.is_open(), True)
                for desk in (-1, desks, desks + 1):
                    self.check_raises(link, "desk", link.wanted, desk, desks=desks)

    def check_refused(self, error, *told):
        with self.assertRaises(OutOfRange if isinstance(error, str) else error) as held:
            Link(*told)
        if isinstance(error, str):
            self.assertEqual(held.exception.name, error)

    def test_what_is_out_of_bounds_in_its_order(self):
        bad_files = ((("A", ()),), [("a", ()), ("a/b", ())], [(f"n{k}", ()) for k in range(21)])
        full = [(f"n{k}", ("x" * 20,) * 5) for k in range(10)]
        for desks in (-1, 0, 4, 5):
            self.check_refused("desks", bad_files[0], 0, 0, [("", ())], desks, 7)
            self.check_refused("desks", FILES, 1, 1, [], desks, 60)
        for blocks in (-1, 0, 7, 401):
            self.check_refused("blocks", bad_files[0], 0, 0, [("", ())], 3, blocks)
            self.check_refused("blocks", FILES, 1, 1, [], 1, blocks)
        for files in bad_files:
            self.check_refused("files", files, 0, 0, [("", ())], 3, 8)
        self.check_refused(LogFull, full, 0, 0, [("", ())], 3, 8)
        for number in (-1, 0, 10):
            self.check_refused("patience", FILES, number, 0, [("", ())], 3, 8)
            self.check_refused("allowance", FILES, 1, number, [("", ())], 3, 8)
        self.check_refused("name", FILES, 1, 1, [("", ())], 3, 8)
        self.check_refused("check", FILES, 1, 1, [("c", ())], 3, 8)
        self.check_refused(TooManyChecks, FILES, 1, 1, [(f"c{k}", (PASS,)) for k in range(5)], 3, 8)

    def test_no_room_for_the_epoch(self):
        # The first record has 8 pieces, which is all that there is.
        files = [("a", ("x" * 20,) * 7)]
        self.assertEqual(len("first\n(write a [" + " ".join(['"' + "x" * 20 + '"'] * 7) + "])\n") // 24 + 1, 8)
        self.check_refused(LogFull, files, 1, 1, [], 1, 8)
        self.check_refused("patience", files, 0, 1, [], 1, 8)
        self.assertEqual(Link(files, 1, 1, [], 1, 9).version(), 0)

    def test_no_list_is_kept(self):
        files, checks = list(FILES), [NO_BAD]
        link = Link(files, 1, 1, checks, 1, 60)
        files.clear()
        checks.clear()
        link.reopen()
        self.assertEqual(link.tree(0).files(), FILES)
        self.assertEqual(self.work(link, 0, write("bad"))[2], None)
        for call in (link.letters, lambda: link.done(0)):
            told = call()
            self.assertIs(type(told), list)
            told.append(None)
            self.assertNotIn(None, call())


class Desks(LinkCase):
    def test_they_are_those_of_a_desk(self):
        link = self.link()
        self.assertEqual(link.start(1, "me", agent(READ)), 0)
        self.assertEqual([link.is_at_work(0), link.is_at_work(1)], [False, True])
        self.assertEqual([link.wanted(0), link.wanted(1)], [None, ("open", 1, 0, "me")])
        self.check_raises(link, AtWork, link.start, 1, "", ())
        self.check_raises(link, "name", link.start, 0, "", ())
        self.check_raises(link, "agent", link.start, 0, "me", ())
        self.assertEqual(self.finish(link, 1), ("me", 0, 1, ((READ, lines("x")),)))
        self.assertEqual([link.done(0), link.done(1)], [[], [("me", 0, 1, ((READ, lines("x")),))]])
        self.assertEqual(link.start(1, "you", agent()), 1)

    def test_desks_that_there_are_not(self):
        link = self.link()
        for desk in (-2, -1, 2, 3):
            for call in (link.done, link.is_at_work, link.wanted, link.send):
                self.check_raises(link, "desk", call, desk)
            self.check_raises(link, "desk", link.start, desk, "", ())


class Letters(LinkCase):
    def row(self):
        """A link with three letters to the house in the row, all different."""
        link = self.link(3)
        for desk in range(3):
            link.start(desk, f"n{desk}", agent(READ))
            self.assertIs(link.send(desk), True)
        return link

    def test_send(self):
        link = self.link()
        self.assertIs(link.send(0), False)
        self.assertEqual(link.letters(), [])
        link.start(0, "me", agent(READ))
        link.start(1, "you", agent(READ))
        one, two = ("open", 0, 0, "me"), ("open", 1, 0, "you")
        for desk, row in ((1, [two]), (0, [two, one]), (0, [two, one, one]), (1, [two, one, one, two])):
            self.assertIs(link.send(desk), True)
            self.assertEqual(link.letters(), row)
        self.assertEqual(link.wanted(0), one)

    def test_drop(self):
        for at in range(3):
            link = self.row()
            row = link.letters()
            self.assertIsNone(link.drop(at))
            del row[at]
            self.assertEqual(link.letters(), row)

    def test_duplicate(self):
        for at in range(3):
            link = self.row()
            row = link.letters()
            self.assertIsNone(link.duplicate(at))
            self.assertEqual(link.letters(), row + [row[at]])

    def test_deliver_to_the_house(self):
        for at in range(3):
            link = self.row()
            row = link.letters()
            self.assertIs(link.deliver(at), True)
            del row[at]
            self.assertEqual(link.letters(), row + [("opened", at, 0, 1)])

    def test_deliver_to_a_desk(self):
        for at in range(3):
            link = self.row()
            for _ in range(3):
                link.deliver(0)
            row = link.letters()
            self.assertEqual(row, [("opened", desk, 0, 1) for desk in range(3)])
            link.duplicate(at)
            self.assertIs(link.deliver(at), True)
            del row[at]
            self.assertEqual(link.letters(), row + [("opened", at, 0, 1)])
            self.assertEqual(link.wanted(at), ("act", at, 0, 1, 0, 0, READ))
            self.assertEqual([link.wanted(desk)[0] for desk in range(3) if desk != at], ["open", "open"])
            self.assertIs(link.deliver(2), False)
            self.assertEqual(link.letters(), row)

    def test_a_letter_without_an_answer(self):
        link = self.row()
        for _ in range(3):
            link.drop(0)
        self.assertIs(self.turn(link, 0), True)
        self.assertIs(self.turn(link, 0), True)
        link.send(0)
        self.assertEqual(link.letters(), [("submit", 0, 0, 1, 0, 1)])
        self.assertIs(link.deliver(0), False)
        self.assertEqual(link.letters(), [])
        self.assertEqual(link.version(), 1)

    def test_no_letter(self):
        link = self.link()
        for desk in range(2):
            link.start(desk, "me", agent())
        for many in range(3):
            for call in (link.deliver, link.drop, link.duplicate):
                for at in (-many - 1, -1, many, many + 1, 100):
                    self.check_raises(link, NoLetter, call, at)
            link.send(many % 2)
        self.assertEqual(len(link.letters()), 3)

    def test_in_any_order(self):
        link = self.link(1)
        link.start(0, "me", agent(write("a", "1"), write("a", "2")))
        self.turn(link, 0)
        link.send(0)
        link.duplicate(0)
        self.assertIs(link.deliver(1), True)
        self.assertIs(link.deliver(1), True)
        link.send(0)
        self.assertIs(link.deliver(1), True)
        self.assertIs(link.deliver(1), True)
        # The first letter comes last, and is answered again without being done again.
        self.assertIs(link.deliver(0), True)
        self.assertEqual(link.letters(), [("answer", 0, 0, 0, 0, DONE)])
        self.assertIs(link.deliver(0), False)
        self.assertEqual(self.finish(link, 0)[2:], (1, ((write("a", "1"), DONE), (write("a", "2"), DONE))))

    def test_results(self):
        link = self.link(2, patience=1, allowance=9, checks=[NO_BAD])
        link.start(0, "me", agent(READ, write("b", "me")))
        for _ in range(3):
            self.turn(link, 0)
        self.assertEqual(self.work(link, 1, write("a", "1"))[2], 1)
        self.turn(link, 0)
        self.assertEqual(link.wanted(0), ("act", 0, 0, 1, 1, 0, READ))
        self.turn(link, 0)
        link.start(1, "you", agent(write("a", "2")))
        for _ in range(3):
            self.turn(link, 1)
        self.assertEqual(link.wanted(1), ("submit", 1, 1, 1, 1, 1))
        self.assertEqual(self.finish(link, 0), ("me", 0, 2, ((READ, lines("1")), (write("b", "me"), DONE))))
        self.assertEqual(self.finish(link, 1), ("you", 1, 3, ((write("a", "2"), DONE),)))
        self.assertEqual(self.work(link, 0, write("bad")), ("me", 1, None, ((write("bad"), DONE),)))


class Houses(LinkCase):
    def test_they_are_those_of_the_house(self):
        link = self.link()
        self.assertEqual(link.sync(), 0)
        self.work(link, 0, write("c", "1"))
        link.start(1, "you", agent(("remove", "c")))
        for _ in range(2):
            self.turn(link, 1)
        self.assertIs(self.turn(link, 1), False)
        self.assertEqual((link.version(), link.synced(), link.epoch()), (2, 1, 1))
        self.assertEqual(link.tree(1).files(), FILES + (("c", ("1",)),))
        self.assertEqual(link.entry(2), ("you", ((("remove", "c"), DONE),)))
        self.assertEqual([link.key(1), link.key(2)], [(0, 0), (1, 0)])
        self.assertEqual(link.sync(), 2)
        self.assertEqual(link.synced(), 2)
        for version in (-1, 3):
            self.check_raises(link, "version", link.tree, version)
        for version in (-1, 0, 3):
            self.check_raises(link, "version", link.entry, version)
            self.check_raises(link, "version", link.key, version)

    def check_not_open(self, link):
        self.assertIs(link.is_open(), False)
        for call in (link.sync, link.version, link.synced, link.epoch):
            self.check_raises(link, NotOpen, call)
        for version in (-1, 0, 1, 500):
            for call in (link.tree, link.entry, link.key):
                self.check_raises(link, NotOpen, call, version)

    def test_a_cut_now(self):
        for torn in TORN:
            link = self.link()
            self.work(link, 0, write("c", "1"))
            link.start(1, "you", agent(("remove", "c")))
            for _ in range(3):
                self.turn(link, 1)
            link.send(1)
            told = told_of_link(link)
            self.assertEqual(link.version(), 2)
            self.assertIsNone(link.cut_power(torn))
            self.check_not_open(link)
            # Letters and desks remain.
            self.assertEqual(told_of_link(link)[:2], told[:2])
            version = link.reopen()
            self.assertEqual(version, 2 if torn == [32] * 99 else 1)
            self.assertEqual((link.is_open(), link.version(), link.synced(), link.epoch()), (True, version, version, 2))
            self.assertEqual(told_of_link(link)[:2], told[:2])
            self.assertEqual(self.finish(link, 1)[1:3], (version % 2, 2))

    def test_desks_go_on_while_the_house_is_not_open(self):
        link = self.link()
        link.start(0, "me", agent(READ))
        link.send(0)
        link.deliver(0)
        link.cut_power([])
        # A letter to a desk is heard, one to the house is lost.
        self.assertIs(link.deliver(0), True)
        self.assertIs(link.send(0), True)
        self.assertEqual(link.letters(), [("act", 0, 0, 1, 0, 0, READ)])
        self.assertIs(link.deliver(0), False)
        self.assertEqual(link.letters(), [])
        self.check_not_open(link)
        self.assertEqual(link.start(1, "you", agent()), 0)
        link.send(1)
        link.duplicate(0)
        link.drop(0)
        link.reopen()
        self.assertIs(link.deliver(0), True)
        self.assertIs(link.deliver(0), True)
        self.assertIs(self.turn(link, 0), True)
        self.assertEqual(link.wanted(0), ("open", 0, 1, "me"))

    def test_letters_to_the_house_are_lost_whatever_they_tell(self):
        link = self.link(3)
        for desk in range(3):
            link.start(desk, "me", agent(READ))
            for _ in range(desk):
                self.turn(link, desk)
            link.send(desk)
        self.assertEqual([letter[0] for letter in link.letters()], ["open", "act", "submit"])
        link.cut_power([])
        for many in (2, 1, 0):
            self.assertIs(link.deliver(0), False)
            self.assertEqual(len(link.letters()), many)
        self.check_not_open(link)

    def test_a_cut_on_schedule_amid_a_delivery(self):
        for torn in TORN:
            for k in range(2):
                link = self.link()
                self.work(link, 1, write("a", "1"))
                link.start(0, "me", agent(write("c", "x" * 15)))
                for _ in range(2):
                    self.turn(link, 0)
                link.send(0)
                link.duplicate(0)
                self.assertIsNone(link.schedule_cut(k, torn))
                with self.assertRaises(PowerCut):
                    link.deliver(0)
                self.check_not_open(link)
                self.assertEqual(link.letters(), [("submit", 0, 0, 1, 0, 1)])
                self.assertEqual(link.reopen(), 1)
                self.assertEqual(self.finish(link, 0)[1:3], (1, 2))
                self.assertEqual(told_of(link)[5], [(1, 0), (0, 1)])

    def test_a_cut_amid_a_sync(self):
        for torn in TORN:
            link = self.link()
            link.start(0, "me", agent(write("c", "1")))
            for _ in range(3):
                self.turn(link, 0)
            link.schedule_cut(0, torn)
            with self.assertRaises(PowerCut):
                link.sync()
            self.check_not_open(link)
            kept = link.reopen()
            self.assertEqual(kept, 1 if torn == [32] * 99 else 0)
            self.assertEqual(self.finish(link, 0)[1:3], (1 - kept, 1))

    def test_numbers_of_cuts_out_of_range(self):
        link = self.link()
        for torn in ([33], [-1], [0, 33]):
            self.check_raises(link, "torn", link.cut_power, torn)
            self.check_raises(link, "torn", link.schedule_cut, 0, torn)
            self.check_raises(link, "many", link.schedule_cut, -1, torn)
        for many in (-1, 100001):
            self.check_raises(link, "many", link.schedule_cut, many, [])
        link.sync()
        self.assertIs(link.is_open(), True)

    def test_reopen_of_a_house_that_is_open(self):
        link = self.link(checks=[NO_BAD])
        link.start(0, "me", agent(write("c", "1")))
        for _ in range(2):
            self.turn(link, 0)
        link.start(1, "you", agent(READ))
        for _ in range(3):
            self.turn(link, 1)
        self.assertEqual((link.version(), link.synced()), (1, 0))
        # What waits on the disk is not lost, since the power was not cut; the sessions are.
        self.assertEqual(link.reopen(), 1)
        self.assertEqual((link.version(), link.synced(), link.epoch()), (1, 1, 2))
        self.assertIs(self.turn(link, 1), True)
        self.assertEqual(link.done(1), [("you", 0, 1, ((READ, lines("x")),))])
        self.assertIs(self.turn(link, 0), True)
        self.assertEqual(link.wanted(0), ("open", 0, 1, "me"))
        self.assertEqual(self.finish(link, 0)[1:3], (1, 2))

    def test_reopen_keeps_the_settings(self):
        link = self.link(patience=1, allowance=9, checks=[NO_BAD, ("never", (FAIL,))])
        self.assertEqual(self.work(link, 0, write("bad"))[2], None)
        link.cut_power([])
        link.reopen()
        self.assertEqual(self.work(link, 0, READ)[2], None)
        for reopened in range(2):
            link = self.link(patience=1, allowance=9)
            if reopened:
                link.reopen()
            link.start(0, "me", agent(READ, write("c", "me")))
            for _ in range(3):
                self.turn(link, 0)
            self.work(link, 1, write("a", "1"))
            for _ in range(2):
                self.turn(link, 0)
            link.start(1, "me", agent(write("a", "2")))
            for _ in range(2):
                self.turn(link, 1)
            # With a patience of 1 the desk 0 is protected now.
            self.assertIs(self.turn(link, 1), True)
            self.assertEqual(link.wanted(1)[4], 1)

    def test_a_cut_amid_reopen(self):
        for torn in TORN:
            for cut_before in (False, True):
                k = 0
                while True:
                    link = self.link(blocks=12)
                    self.work(link, 0, write("c", "1"))
                    if cut_before:
                        link.cut_power([])
                    link.schedule_cut(k, torn)
                    before = told_of_link(link)[:2]
                    try:
                        version = link.reopen()
                    except PowerCut:
                        self.check_not_open(link)
                        self.assertEqual(told_of_link(link)[:2], before)
                        self.assertEqual(link.reopen(), 1)
                        self.assertIn(link.epoch(), (2, 3))
                        self.assertEqual(self.work(link, 0, READ)[1:3], (1, 2))
                        k += 1
                    else:
                        self.assertEqual((version, link.epoch()), (1, 2))
                        break
                self.assertEqual(k, (12 - 5) + 1 + 1 + 1)

    def test_reopen_without_room_for_the_epoch(self):
        for cut in (False, True):
            link = self.link(blocks=8)
            for epoch in range(2, 7):
                self.assertEqual(link.reopen(), 0)
                self.assertEqual(link.epoch(), epoch)
            if cut:
                link.cut_power([])
            with self.assertRaises(LogFull):
                link.reopen()
            self.check_not_open(link)

    def test_again_and_again(self):
        link = self.link(blocks=100)
        for epoch in range(1, 20):
            self.assertEqual(link.epoch(), epoch)
            self.assertEqual(self.work(link, epoch % 2, write("c", str(epoch)))[2], epoch)
            link.cut_power([])
            link.cut_power([])
            self.assertEqual(link.reopen(), epoch)


class Interface(unittest.TestCase):
    METHODS = {
        "__init__": ["files", "patience", "allowance", "checks", "desks", "blocks"],
        "start": ["desk", "name", "agent"],
        "done": ["desk"],
        "is_at_work": ["desk"],
        "wanted": ["desk"],
        "send": ["desk"],
        "letters": [],
        "drop": ["letter"],
        "duplicate": ["letter"],
        "deliver": ["letter"],
        "sync": [],
        "version": [],
        "synced": [],
        "epoch": [],
        "tree": ["version"],
        "entry": ["version"],
        "key": ["version"],
        "is_open": [],
        "cut_power": ["torn"],
        "schedule_cut": ["many", "torn"],
        "reopen": [],
    }

    def test_each_method_stands_in_the_class(self):
        self.assertEqual(Link.__module__, "sameanswers.link")
        for name, parameters in self.METHODS.items():
            with self.subTest(name=name):
                self.assertIn(name, vars(Link))
                self.assertEqual(list(inspect.signature(vars(Link)[name]).parameters), ["self"] + parameters)


if __name__ == "__main__":
    unittest.main()
