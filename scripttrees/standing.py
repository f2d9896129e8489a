"""Trees that stand for all trees."""

from scripttrees.asking import Answers
from scripttrees.errors import InvalidGroup
from scripttrees.exploring import go_on, outcome_for
from scripttrees.judged import can_be_judged
from scripttrees.scripts import is_script, run
from scripttrees.trees import check_tree

MOST_SCRIPTS = 3


def is_group(candidate):
    """Return whether candidate is a group."""
    if not isinstance(candidate, list) or not 1 <= len(candidate) <= MOST_SCRIPTS:
        return False
    return all([is_script(script) for script in candidate]) and can_be_judged(candidate)


def check_group(group):
    """Raise InvalidGroup if group is not a group."""
    if not is_group(group):
        raise InvalidGroup("this is not a group")


def standing_trees(group):
    """Return a list of trees that stands for all trees."""
    check_group(group)
    trees = {}
    picks = []
    is_left = True
    while is_left:
        answers = Answers(picks)
        outcomes = tuple(outcome_for(answers, script) for script in group)
        if outcomes not in trees:
            trees[outcomes] = answers.tree()
        is_left = go_on(picks)
    return list(trees.values())


def have_outcomes(answers, group, outcomes):
    """Return whether the scripts of a group have some outcomes on the trees that give some answers."""
    for at in range(len(group)):
        # No more is asked where one has another outcome, and all trees that go on alike are passed over at once.
        if outcome_for(answers, group[at]) != outcomes[at]:
            return False
    return True


def stands_for(group, tree):
    """Return the first of the standing trees that stands for a tree."""
    check_group(group)
    check_tree(tree)
    outcomes = [run(tree, script)[:2] for script in group]
    picks = []
    answers = Answers(picks)
    while not have_outcomes(answers, group, outcomes):
        go_on(picks)
        answers = Answers(picks)
    return answers.tree()
