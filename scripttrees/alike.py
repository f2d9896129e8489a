"""Whether two scripts do the same."""

from scripttrees.asking import AskedState
from scripttrees.comparing import effect_on, told_apart
from scripttrees.exploring import first_found
from scripttrees.judged import MOST_COMPARED_CALLS, check_compared
from scripttrees.scripts import make_all

MOST_COMMUTING_CALLS = 2


def parting(answers, one, other, is_good_only):
    """Return a tree that gives the answers and on which the effects of two scripts differ, or None.

    If is_good_only is True, trees on which the first script fails do not count.
    """
    first = AskedState(answers)
    result = make_all(first, one)[1]
    if is_good_only and result != "ok":
        return None
    second = AskedState(answers)
    if make_all(second, other)[1] != result:
        return answers.tree()
    tree = told_apart(answers, [first, second])
    if effect_on(tree, one) == effect_on(tree, other):
        return None
    return tree


def parting_of(one, other):
    """Return what parting_tree returns, for what can be judged together."""
    def look(answers):
        return parting(answers, one, other, False)

    return first_found(look)


def same_effect(one, other):
    """Return whether two scripts have the same effect on all trees."""
    return parting_tree(one, other) is None


def parting_tree(one, other):
    """Return some tree on which two scripts have not the same effect, or None."""
    check_compared([one, other], MOST_COMPARED_CALLS)
    return parting_of(one, other)


def same_if_good(one, other):
    """Return whether two scripts have the same effect on all trees on which the first one succeeds."""
    check_compared([one, other], MOST_COMPARED_CALLS)

    def look(answers):
        return parting(answers, one, other, True)

    return first_found(look) is None


def do_commute(one, other):
    """Return whether two scripts, one after the other, have the same effect in both orders on all trees."""
    check_compared([one, other], MOST_COMMUTING_CALLS)
    return parting_of(one + other, other + one) is None
