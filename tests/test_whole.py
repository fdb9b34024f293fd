"""Point 46, and with it points 21, 27, 29, 38, 40, 41, 44 and 45: drawn runs of links with letters lost, doubled and
late, cuts and openings in between, and then rounds without loss until every work is done."""

import random
import unittest

from sameanswers.agents import check_agent, is_of, live
from sameanswers.errors import PowerCut
from sameanswers.link import Link
from sameanswers.trees import Tree
from tests.houses import NO_BAD

FILES = (("a", ("1",)), ("b", ("1", "2")))
PATHS = ("a", "b", "c", "d/e")
STOP = ("stop",)
ANSWERS = (("none",), ("done",), ("missing",), ("absent",), ("lines", ("1",)), ("lines", ("2",)), ("many", 2))


def draw_action(draw):
    path, row = draw.choice(PATHS), (draw.choice("123"),)
    return draw.choice(
        (
            ("read", path),
            ("read", path),
            ("kind", draw.choice(("d", path))),
            ("list", ""),
            ("find", "", row[0]),
            ("count", ""),
            ("write", path, row),
            ("write", path, row + row),
            ("remove", path),
            ("move", path, draw.choice(PATHS)),
            ("splice", path, row, (draw.choice("123"),)),
        )
    )


def draw_agent(draw):
    """An agent of a few rows, which goes on by the answers."""
    many = draw.randrange(2, 7)
    rows = []
    for at in range(many):
        action = draw_action(draw)
        if draw.randrange(25) == 0:
            action = ("write", "bad", ())
        told = draw.sample(ANSWERS, draw.randrange(3))
        cases = tuple([(answer, draw.randrange(at + 1, many + 1)) for answer in told])
        rows.append(("act", action, cases, draw.randrange(at + 1, min(at + 3, many + 1))))
    return (*rows, STOP)


class Run:
    """A link that is driven by drawn numbers, and all that its desks were given and told."""

    def __init__(self, test, seed, blocks=400):
        self.test, self.seed, self.draw = test, seed, random.Random(seed)
        self.desks = self.draw.choice((1, 2, 3, 3, 3))
        self.cuts = self.draw.choice((0, 0.004, 0.02))
        self.losses = self.draw.choice((0, 0.05, 0.2))
        patience, allowance = self.draw.choice((1, 1, 2, 3)), self.draw.randrange(1, 4)
        checks = [NO_BAD] if self.draw.randrange(2) else []
        self.link = Link(FILES, patience, allowance, checks, self.desks, blocks)
        # For each desk its works: name, agent, the first serial, and whatever it was told when it was done.
        self.works = [[] for _ in range(self.desks)]
        self.told = {}
        self.seen = set()

    def torn(self):
        return [self.draw.choice((0, 0, 7, 31, 32, 32, 32)) for _ in range(self.draw.randrange(20))]

    def guard(self, call, *told):
        """The call, which may end with a cut."""
        try:
            return call(*told)
        except PowerCut:
            self.seen.add("cut")
            return None

    def start(self, desk):
        name, agent = f"w{len(self.works[desk])}", draw_agent(self.draw)
        check_agent(agent)
        self.works[desk].append((name, agent, self.link.start(desk, name, agent)))

    def step(self):
        link, draw = self.link, self.draw
        kind = draw.random()
        if kind < self.cuts:
            self.trouble()
        elif not link.is_open() and kind < 0.1:
            self.guard(link.reopen)
        elif kind < 0.3:
            desk = draw.randrange(self.desks)
            if link.is_at_work(desk):
                link.send(desk)
            else:
                self.start(desk)
        elif kind < 0.97:
            self.move(draw.random(), len(link.letters()))
        elif link.is_open():
            self.guard(link.sync)
        self.look()

    def move(self, kind, letters):
        """Delivers, drops or doubles a letter: the eldest one most often, a late one now and then."""
        link, draw = self.link, self.draw
        if letters == 0:
            return
        at = draw.randrange(letters) if draw.randrange(4) == 0 else 0
        if kind < self.losses:
            draw.choice((link.drop, link.duplicate))(at)
        else:
            self.guard(link.deliver, at)

    def trouble(self):
        """A cut now, a cut to come, or an opening without one."""
        kind = self.draw.randrange(5)
        if kind == 0:
            self.guard(self.link.reopen)
        elif kind < 3:
            self.link.cut_power(self.torn())
        else:
            self.link.schedule_cut(self.draw.randrange(8), self.torn())

    def look(self):
        """Keeps what the desks were told, and compares it with what the house has."""
        link = self.link
        self.seen |= {letter[4][0] for letter in link.letters() if letter[0] == "result"}
        for desk in range(self.desks):
            for at, (_, serial, version, journal) in enumerate(link.done(desk)):
                if (desk, at) not in self.told:
                    self.told[desk, at] = (desk, serial, version, journal)
        if link.is_open():
            for desk, serial, version, journal in self.told.values():
                if version is not None:
                    self.test.assertLessEqual(version, link.synced(), self.seed)
                    self.test.assertEqual(link.key(version), (desk, serial), self.seed)
                    self.test.assertEqual(link.entry(version)[1], journal, self.seed)

    def round(self):
        """Everything is delivered once, and nothing is lost."""
        if not self.link.is_open():
            self.guard(self.link.reopen)
            return
        for desk in range(self.desks):
            self.link.send(desk)
        while self.link.letters() and self.link.is_open():
            self.guard(self.link.deliver, 0)
        if self.link.is_open():
            self.guard(self.link.sync)
        self.look()

    def finish(self):
        rounds = 0
        while any(self.link.is_at_work(desk) for desk in range(self.desks)) or not self.link.is_open():
            self.round()
            rounds += 1
            self.test.assertLess(rounds, 300, self.seed)

    def check(self):
        """What point 46 promises, of each work and of each version."""
        link, test = self.link, self.test
        owners = {}
        for desk in range(self.desks):
            done = link.done(desk)
            test.assertEqual(len(done), len(self.works[desk]), self.seed)
            for (name, agent, first), (told, last, version, journal) in zip(self.works[desk], done):
                test.assertEqual((name, first <= last), (told, True), self.seed)
                test.assertTrue(is_of(agent, journal), self.seed)
                keys = [link.key(k) for k in range(1, link.version() + 1)]
                made = [k for k, key in enumerate(keys, start=1) if key[0] == desk and first <= key[1] <= last]
                test.assertEqual(made, [] if version is None else [version], self.seed)
                if last > first:
                    self.seen.add("lost")
                if version is not None:
                    owners[version] = (name, agent, journal)
        test.assertEqual(sorted(owners), list(range(1, link.version() + 1)), self.seed)
        for version, (name, agent, journal) in owners.items():
            alone, tree = live(agent, link.tree(version - 1))
            test.assertEqual(link.entry(version), (name, alone), self.seed)
            test.assertEqual(journal, alone, self.seed)
            test.assertTrue(link.tree(version).is_same(tree), self.seed)
        test.assertTrue(link.tree(0).is_same(Tree(FILES)), self.seed)


class Whole(unittest.TestCase):
    def test_drawn_runs(self):
        seen = set()
        versions = 0
        for seed in range(120):
            run = Run(self, seed)
            for _ in range(500):
                run.step()
            run.finish()
            run.check()
            # It is the same after one more opening.
            run.link.cut_power(run.torn())
            run.link.reopen()
            run.look()
            run.check()
            seen |= run.seen
            versions += run.link.version()
        self.assertEqual(seen, {"cut", "lost", "refused", "waiting", "failed", "accepted"})
        self.assertGreater(versions, 500)

    def test_many_cuts(self):
        for seed in range(1000, 1040):
            run = Run(self, seed)
            for _ in range(12):
                run.link.schedule_cut(run.draw.randrange(12), run.torn())
                for _ in range(30):
                    run.step()
                while not run.link.is_open():
                    run.guard(run.link.reopen)
            run.finish()
            run.check()

    def test_rounds_without_loss_from_the_start(self):
        for seed in range(2000, 2040):
            run = Run(self, seed)
            for _ in range(6):
                for desk in range(run.desks):
                    run.start(desk)
                run.finish()
            run.check()

    def test_the_same_steps_give_the_same(self):
        for seed in range(5):
            told = []
            for _ in range(2):
                run = Run(self, seed)
                for _ in range(300):
                    run.step()
                run.finish()
                link = run.link
                rows = [(link.entry(k), link.key(k), link.tree(k).files()) for k in range(1, link.version() + 1)]
                told.append((rows, link.epoch(), [link.done(desk) for desk in range(run.desks)]))
            self.assertEqual(told[0], told[1])


if __name__ == "__main__":
    unittest.main()
