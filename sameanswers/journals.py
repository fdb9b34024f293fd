"""Journals: actions with the answers that they had, one after another."""

from sameanswers.actions import act


def run(tree, actions):
    """The journal of the actions on the tree, and the tree that they leave."""
    journal = []
    for action in actions:
        answer, tree = act(tree, action)
        journal.append((action, answer))
    return tuple(journal), tree


def first_change(journal, tree):
    """The index of the first entry that has another answer on the tree, with this answer; None if the journal holds."""
    for at, (action, told) in enumerate(journal):
        answer, tree = act(tree, action)
        if answer != told:
            return at, answer
    return None


def holds(journal, tree):
    """Whether all actions of the journal have the same answers on the tree."""
    return first_change(journal, tree) is None


def lead(journal, tree):
    """The tree to which the actions of the journal lead, whatever their answers are."""
    _, left = run(tree, [action for action, _ in journal])
    return left
