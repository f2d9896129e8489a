"""Scripts: what they are, and what they do to a tree."""

from scripttrees.calls import call_paths, is_call, make
from scripttrees.errors import InvalidScript
from scripttrees.states import state_of, tree_of
from scripttrees.trees import check_tree

MOST_CALLS = 6


def is_script(candidate):
    """Return whether candidate is a script."""
    if not isinstance(candidate, tuple) or len(candidate) > MOST_CALLS:
        return False
    return all([is_call(call) for call in candidate])


def check_script(script):
    """Raise InvalidScript if script is not a script."""
    if not is_script(script):
        raise InvalidScript("this is not a script")


def all_paths_of(script):
    """Return what script_paths returns, for what is known to be a script."""
    return sorted({path for call in script for path in call_paths(call)})


def make_all(state, script):
    """Make the calls of a script up to its end; return the number of those that succeeded, and the last result."""
    for done in range(len(script)):
        result = make(state, script[done])
        if result != "ok":
            return done, result
    return len(script), "ok"


def script_paths(script):
    """Return the ascending list of all paths of the calls of a script."""
    check_script(script)
    return all_paths_of(script)


def run(tree, script):
    """Return the number of calls that succeeded, the result of the last call that was made, and the tree at the end."""
    check_tree(tree)
    check_script(script)
    state = state_of(tree)
    done, result = make_all(state, script)
    return done, result, tree_of(state)


def succeeds(tree, script):
    """Return whether all calls of a script succeed."""
    return run(tree, script)[1] == "ok"


def trees_along(tree, script):
    """Return the list of the trees at the beginning and after each call that succeeded."""
    check_tree(tree)
    check_script(script)
    state = state_of(tree)
    trees = [tree]
    for call in script:
        if make(state, call) != "ok":
            break
        trees.append(tree_of(state))
    return trees
