"""What holds wherever a script succeeds, before it and behind it."""

from scripttrees.asking import AskedState
from scripttrees.exploring import all_found, first_found, outcome_for
from scripttrees.judged import check_judged
from scripttrees.looking import are_true, kinds_at
from scripttrees.names import with_beginnings
from scripttrees.scripts import all_paths_of, make_all


def kinds_always(script, path, is_at_end):
    """Return the ascending list of the kinds of the facts at a path that hold wherever a script succeeds."""
    def look(answers):
        state = AskedState(answers)
        if make_all(state, script)[1] != "ok":
            return None
        if is_at_end:
            return kinds_at(state, path)
        return kinds_at(AskedState(answers), path)

    rows = all_found(look)
    if not rows:
        return []
    return [kind for kind in rows[0] if all([kind in row for row in rows])]


def facts_always(script, is_at_end):
    """Return the ascending list of the facts about the places of a script that hold wherever it succeeds."""
    places = with_beginnings(all_paths_of(script))
    return [(path, kind) for path in places for kind in kinds_always(script, path, is_at_end)]


def needs(script):
    """Return the ascending list of the facts that hold in all trees on which a script succeeds."""
    check_judged(script)
    return facts_always(script, False)


def are_needs_enough(script):
    """Return whether a script succeeds on all trees in which all its needs hold, and on one at least."""
    facts = needs(script)

    def look(answers):
        if are_true(AskedState(answers), facts) and outcome_for(answers, script)[1] != "ok":
            return True
        return None

    # A script that never succeeds has no needs, and fails on all trees.
    return first_found(look) is None


def promises(script):
    """Return the ascending list of the facts that hold in the tree at the end, whenever a script succeeds."""
    check_judged(script)
    return facts_always(script, True)
