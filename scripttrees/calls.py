"""Calls: what they are, and what they do to a tree."""

from scripttrees.errors import InvalidCall
from scripttrees.making import make_call
from scripttrees.names import is_call_path, is_call_word
from scripttrees.states import state_of, tree_of
from scripttrees.trees import check_tree

# What follows the kind of a call.
PARTS = {
    "folder": ("path",),
    "file": ("path",),
    "write": ("path", "word"),
    "append": ("path", "word"),
    "copy": ("path", "path"),
    "link": ("path", "path"),
    "remove": ("path",),
    "drop": ("path",),
    "move": ("path", "path"),
}


def is_call_part(candidate, part):
    """Return whether candidate is a path or a word, as part says, that calls may have."""
    if part == "path":
        return is_call_path(candidate)
    return is_call_word(candidate)


def is_call(candidate):
    """Return whether candidate is a call."""
    if not isinstance(candidate, tuple) or not candidate:
        return False
    if not isinstance(candidate[0], str) or candidate[0] not in PARTS:
        return False
    parts = PARTS[candidate[0]]
    if len(candidate) != len(parts) + 1:
        return False
    return all([is_call_part(candidate[at + 1], parts[at]) for at in range(len(parts))])


def check_call(call):
    """Raise InvalidCall if call is not a call."""
    if not is_call(call):
        raise InvalidCall("this is not a call")


def call_paths(call):
    """Return what paths_in returns, for what is known to be a call."""
    parts = PARTS[call[0]]
    return [call[at + 1] for at in range(len(parts)) if parts[at] == "path"]


def make(state, call):
    """Make a call, change the state if it succeeds, and return its result."""
    return make_call(state, call, call_paths(call))


def paths_in(call):
    """Return the list of the paths of a call, in order."""
    check_call(call)
    return call_paths(call)


def result_of(tree, call):
    """Return the result of a call."""
    check_tree(tree)
    check_call(call)
    return make(state_of(tree), call)


def tree_after(tree, call):
    """Return the tree after a call."""
    check_tree(tree)
    check_call(call)
    state = state_of(tree)
    make(state, call)
    return tree_of(state)
