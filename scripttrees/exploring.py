"""Going through all rows of answers that trees can give, so that nothing is missed on any tree.

Whoever looks is a function that gets an Answers object, and asks it whatever it has to know of a tree. What it then
finds has to hold for all trees that give these answers; None stands for nothing.
"""

from scripttrees.asking import Answers, AskedState
from scripttrees.scripts import make_all


def outcome_for(answers, script):
    """Return the number of calls that succeed, and the last result, on the trees that give some answers."""
    return make_all(AskedState(answers), script)


def go_on(picks):
    """Change picks into those that come next; return whether there are any."""
    while picks and picks[-1][0] + 1 == picks[-1][1]:
        picks.pop()
    if not picks:
        return False
    picks[-1][0] += 1
    return True


def all_found(look):
    """Return the list of all that is found, in the order in which it is found first."""
    found = {}
    picks = []
    is_left = True
    while is_left:
        thing = look(Answers(picks))
        if thing is not None:
            found[thing] = True
        is_left = go_on(picks)
    return list(found)


def first_found(look):
    """Return what is found first, or None."""
    picks = []
    is_left = True
    while is_left:
        thing = look(Answers(picks))
        if thing is not None:
            return thing
        is_left = go_on(picks)
    return None
