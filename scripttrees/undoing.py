"""What undoes a script, and what it loses."""

from scripttrees.asking import AskedState
from scripttrees.comparing import ask_of_changed, effect_on, told_apart
from scripttrees.exploring import first_found
from scripttrees.judged import MOST_COMPARED_CALLS, check_compared, check_judged
from scripttrees.scripts import make_all


def does_undo(script, other):
    """Return what is_undone returns, for what can be judged together."""
    def look(answers):
        state = AskedState(answers)
        if make_all(state, script)[1] != "ok":
            return None
        if make_all(state, other)[1] != "ok":
            return True
        tree = told_apart(answers, [state])
        if effect_on(tree, script + other)[1] != tree:
            return True
        return None

    # What is looked for is a tree on which the script is not undone.
    return first_found(look) is None


def is_undone(script, other):
    """Return whether another script leads back to the beginning wherever a script succeeds."""
    check_compared([script, other], MOST_COMPARED_CALLS)
    return does_undo(script, other)


def reverse_call(call):
    """Return the reverse of a call, or None."""
    kind = call[0]
    if kind == "folder":
        return "drop", call[1]
    if kind == "file":
        return "remove", call[1]
    if kind in ("copy", "link"):
        return "remove", call[2]
    if kind == "drop":
        return "folder", call[1]
    if kind == "move":
        return "move", call[2], call[1]
    return None


def reverse_of(script):
    """Return what reverse returns, for what is known to be a script."""
    calls = [reverse_call(call) for call in reversed(script)]
    if None in calls:
        return None
    return tuple(calls)


def reverse(script):
    """Return the reverse of a script, or None if one of its calls has none."""
    check_compared([script], MOST_COMPARED_CALLS)
    return reverse_of(script)


def can_undo(script):
    """Return whether a script has a reverse that undoes it."""
    other = reverse(script)
    return other is not None and does_undo(script, other)


def loses_words(tree, script):
    """Return whether the words of some file are not the first words of any file behind a script."""
    kept = [words for _, words in effect_on(tree, script)[1][1]]
    for _, words in tree[1]:
        if not any([row[:len(words)] == words for row in kept]):
            return True
    return False


def keeps_words(script):
    """Return whether the words of each file are the first words of some file behind a script, wherever it succeeds."""
    check_judged(script)

    def look(answers):
        state = AskedState(answers)
        if make_all(state, script)[1] != "ok":
            return None
        ask_of_changed(answers, [state])
        # A file with a further path would never be lost with its last one.
        if loses_words(answers.marked_tree(False), script):
            return True
        return None

    return first_found(look) is None
