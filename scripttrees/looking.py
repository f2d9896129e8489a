"""What stands at the paths of a state."""

from scripttrees.facts import PAIR_KINDS
from scripttrees.making import walk
from scripttrees.names import end_of
from scripttrees.states import File, Folder


def found_at(state, path):
    """Return the File or the Folder to which a path leads, or None."""
    result, folder = walk(state, path)
    if result != "ok":
        return None
    return state.entry(folder, end_of(path))


def kinds_at(state, path):
    """Return the ascending tuple of the kinds of the facts that hold at a path."""
    found = found_at(state, path)
    if found is None:
        return ("none",)
    if isinstance(found, File):
        return ("file",)
    if state.is_empty(found):
        return "empty", "folder"
    return ("folder",)


def is_pair_true(state, fact):
    """Return whether a fact about two files holds in a state."""
    one = found_at(state, fact[0])
    other = found_at(state, fact[2])
    if not isinstance(one, File) or not isinstance(other, File):
        return False
    return state.are_same(one, other) == (fact[1] == "same")


def is_true(state, fact):
    """Return whether a fact holds in a state."""
    if fact[1] in PAIR_KINDS:
        return is_pair_true(state, fact)
    found = found_at(state, fact[0])
    if fact[1] == "none":
        return found is None
    if fact[1] == "file":
        return isinstance(found, File)
    if not isinstance(found, Folder):
        return False
    # Whether the folder is empty is not asked where the fact leaves it open.
    return fact[1] == "folder" or state.is_empty(found)


def are_true(state, facts):
    """Return whether all facts hold in a state."""
    for fact in facts:
        if not is_true(state, fact):
            return False
    return True
