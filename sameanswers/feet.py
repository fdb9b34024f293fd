"""What a journal hangs on: the questions to the tree on which it begins whose answers decide whether it holds."""

from sameanswers.actions import act
from sameanswers.trees import paths_above, paths_under


def feet_of(action):
    """The feet of one action."""
    word, place = action[0], action[1]
    if word in ("read", "remove", "splice"):
        return [("read", place)]
    if word == "write":
        return [("under", place), ("above", place), ("total",)]
    if word == "move":
        return [("read", place), ("under", action[2]), ("above", action[2])]
    if word == "find":
        return [("under", place), ("find", place, action[2])]
    return [("under", place)]


def feet(journal):
    """The rising tuple of the feet of the journal, each once."""
    return tuple(sorted({foot for action, _ in journal for foot in feet_of(action)}))


def foot_answer(foot, tree):
    """The answer to one foot on the tree."""
    if foot[0] == "total":
        return len(tree.paths(""))
    if foot[0] == "under":
        return paths_under(tree, foot[1])
    if foot[0] == "above":
        return paths_above(tree, foot[1])
    answer, _ = act(tree, foot)
    return answer


def stand(feet, tree):
    """The tuple of the answers to the feet on the tree, in their order."""
    return tuple([foot_answer(foot, tree) for foot in feet])
