"""What scripts make of all trees that give the same answers.

It is compared on one of these trees, in which each file and folder can be told from all others. Where two scripts
make the same of it, each entry at the end is the same entry of the beginning, or was made by the same calls, and so
they make the same of each of these trees. That holds as long as it is known of each file that is changed which other
files are the same, as those change with it.
"""

from scripttrees.scripts import make_all
from scripttrees.states import state_of, tree_of


def ask_of_changed(answers, states):
    """Ask of each file that was changed in some states at the end which other files are the same."""
    for state in states:
        for path in state.changed_paths():
            answers.compare_files(path)


def told_apart(answers, states):
    """Return a tree on which it is seen whether scripts that end at some states make the same of all trees."""
    ask_of_changed(answers, states)
    return answers.marked_tree(True)


def effect_on(tree, script):
    """Return the result of a script and the tree at the end, for what is known to be a tree and a script."""
    state = state_of(tree)
    result = make_all(state, script)[1]
    return result, tree_of(state)
