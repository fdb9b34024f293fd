"""Points 27 to 33 once more: a second trunk, said point by point, goes beside the trunk through many drawn runs."""

import random
import unittest

from sameanswers.checks import verdict
from sameanswers.errors import TrunkError
from sameanswers.inverses import inverse
from sameanswers.journals import first_change, run
from sameanswers.trees import Tree
from sameanswers.trunk import Trunk
from tests.trunks import FAIL, PASS, told_of

PATHS = ("a", "b", "c/d")
CHECKS = (
    (("ask", ("read", "a"), ((("lines", ("2",)), 2),), 1), PASS, FAIL),
    (("ask", ("count", ""), ((("many", 0), 2), (("none",), 2)), 1), PASS, FAIL),
    (("ask", ("kind", "c"), ((("none",), 1),), 2), ("ask", ("read", "b"), ((("none",), 3),), 2), PASS, FAIL),
    (PASS,),
)


def holds(journal, tree):
    return run(tree, [action for action, _ in journal])[0] == journal


class Second:
    """The points word by word; it raises nothing, since it is asked only what the trunk has done."""

    def __init__(self, tree, patience, allowance):
        self.patience, self.allowance = patience, allowance
        self.trees, self.entries, self.sessions = [tree], [], []
        self.line, self.guarded, self.events = [], False, 0
        self.checks, self.kept, self.runs = {}, {}, 0

    def newest(self):
        return self.trees[-1]

    def begin(self, name):
        row = {"state": "open", "name": name, "base": len(self.entries), "refusals": 0, "journal": ()}
        self.sessions.append(row)
        return len(self.sessions) - 1

    def take_back(self, version, name):
        session = self.begin(name)
        actions = inverse(self.entries[version - 1][1], self.trees[version - 1])
        journal = run(self.trees[version], actions)[0]
        self.sessions[session].update(base=version, journal=journal)
        return session

    def sight(self, session):
        row = self.sessions[session]
        return run(self.trees[row["base"]], [action for action, _ in row["journal"]])[1]

    def act(self, session, position, action):
        entries = run(self.sight(session), [action])[0]
        self.sessions[session]["journal"] += entries
        return entries[0][1]

    def close(self, session):
        self.sessions[session]["state"] = "closed"
        self.leave(session)

    def leave(self, session):
        if self.line[:1] == [session]:
            self.guarded, self.events = False, 0
        self.line = [other for other in self.line if other != session]

    def count_event(self):
        self.events += 1
        if self.events == self.allowance:
            self.sessions[self.line[0]]["refusals"] = 0
            self.leave(self.line[0])

    def came(self, session):
        """A version came by this session, or by none."""
        if self.line and self.line[0] != session:
            if self.guarded:
                self.sessions[self.line[0]]["base"] = len(self.entries)
            else:
                self.count_event()
        self.leave(session)

    def append(self, name, actions):
        journal, tree = run(self.newest(), actions)
        self.entries.append((name, journal))
        self.trees.append(tree)
        self.guarded = False
        self.came(None)
        return len(self.entries)

    def standing(self, session):
        journal = self.sessions[session]["journal"]
        change = first_change(journal, self.newest())
        if change is None:
            return None
        held = [holds(journal[: change[0] + 1], tree) for tree in self.trees]
        since = min(version for version in range(len(held)) if not any(held[version:]))
        return change + (since,)

    def submit(self, session, position):
        row = self.sessions[session]
        standing = self.standing(session)
        if standing is not None:
            row.update(base=len(self.entries), journal=row["journal"][: standing[0]], refusals=row["refusals"] + 1)
            if session not in self.line and row["refusals"] >= self.patience:
                self.guarded = self.guarded or not self.line
                self.line.append(session)
            elif self.line[:1] == [session]:
                self.guarded = True
            return ("refused",) + standing
        candidate = run(self.newest(), [action for action, _ in row["journal"]])[1]
        if self.guarded and self.line[0] != session:
            if not holds(self.sessions[self.line[0]]["journal"], candidate):
                self.count_event()
                return ("waiting",)
        names = tuple([name for name in sorted(self.checks) if not self.passes(name, candidate)])
        if names:
            return ("failed", names)
        row["state"] = "accepted"
        self.entries.append((row["name"], row["journal"]))
        self.trees.append(candidate)
        self.came(session)
        return ("accepted", len(self.entries))

    def passes(self, name, tree):
        sure = [told for told in self.kept[name] if holds(told[1], tree)]
        if not sure:
            sure = [verdict(self.checks[name], tree)]
            self.runs += 1
            self.kept[name] = (sure + self.kept[name])[:5]
        return sure[0][0]

    def require(self, name, check):
        self.checks[name] = check
        self.kept[name] = []

    def drop(self, name):
        del self.checks[name], self.kept[name]

    def told(self):
        rows = []
        for session, row in enumerate(self.sessions):
            place = self.line.index(session) if session in self.line else None
            guarded = self.guarded and place == 0
            standing = self.standing(session) if row["state"] == "open" else None
            told = (row["state"], row["name"], row["base"], row["refusals"], row["journal"])
            rows.append(told + (self.sight(session).files(), place, guarded, standing))
        kept = [(name, self.kept[name]) for name in sorted(self.checks)]
        trees = [tree.files() for tree in self.trees]
        return (len(self.entries), trees, self.entries, rows, self.line, kept, self.runs)


class SideBySide(unittest.TestCase):
    def draw_action(self, draw):
        path = draw.choice(PATHS)
        rows = (draw.choice("123"),)
        return draw.choice(
            (
                ("read", path),
                ("kind", path),
                ("find", "", "1"),
                ("count", ""),
                ("write", path, rows),
                ("write", path, rows),
                ("remove", path),
                ("move", path, draw.choice(PATHS)),
                ("splice", path, rows, (draw.choice("123"),)),
            )
        )

    def draw_call(self, draw, trunk):
        number = len(told_of(trunk)[3])
        active = [session for session in range(number) if trunk.state(session) == "open"]
        kind = draw.random()
        if not active or kind < 0.12:
            return ("begin", f"s{number % 10}")
        session = draw.choice(active)
        position = len(trunk.journal(session))
        if kind < 0.5:
            return ("act", session, position, self.draw_action(draw))
        if kind < 0.88:
            return ("submit", session, position)
        if kind < 0.91:
            return ("close", session)
        if kind < 0.94:
            return ("append", "by", tuple([self.draw_action(draw) for _ in range(draw.randrange(3))]))
        if kind < 0.96:
            return ("take_back", draw.randrange(trunk.version() + 1), "back")
        if kind < 0.98:
            return ("require", draw.choice("ab"), draw.choice(CHECKS))
        return ("drop", draw.choice("ab"))

    def go(self, seed, steps):
        draw = random.Random(seed)
        tree = Tree((("a", ("1",)), ("b", ("1", "2"))))
        settings = (draw.randrange(1, 4), draw.randrange(1, 4))
        trunk, second = Trunk(tree, *settings), Second(tree, *settings)
        results = set()
        for _ in range(steps):
            word, *told = self.draw_call(draw, trunk)
            try:
                result = getattr(trunk, word)(*told)
            except TrunkError:
                continue
            self.assertEqual(result, getattr(second, word)(*told), (seed, word, told))
            if word == "submit":
                results.add(result[0])
            self.assertEqual(told_of(trunk), second.told(), (seed, word, told))
            for session in range(len(second.sessions)):
                if trunk.is_protected(session):
                    results.add("protected")
                    self.assertIsNone(trunk.standing(session))
        return results

    def test_many_drawn_runs(self):
        results = set()
        for seed in range(60):
            results |= self.go(seed, 90)
        self.assertEqual(results, {"refused", "waiting", "failed", "accepted", "protected"})


if __name__ == "__main__":
    unittest.main()
