"""What results a script can have."""

from scripttrees.asking import AskedState
from scripttrees.errors import InvalidFacts, InvalidOutcome
from scripttrees.exploring import all_found, outcome_for
from scripttrees.facts import check_facts, fact_paths
from scripttrees.judged import check_judged
from scripttrees.looking import are_true
from scripttrees.names import have_few_places
from scripttrees.scripts import MOST_CALLS, all_paths_of
from scripttrees.trees import all_paths

RESULTS = ("ok", "missing", "not folder", "exists", "is folder", "not empty", "inside")


def outcomes_of(script, facts):
    """Return what outcomes_under returns, for what can be judged together."""
    def look(answers):
        if not are_true(AskedState(answers), facts):
            return None
        return outcome_for(answers, script)

    return sorted(all_found(look))


def outcomes(script):
    """Return the ascending list of all outcomes that a script has on some trees."""
    check_judged(script)
    return outcomes_of(script, ())


def judgement(script):
    """Return whether a script succeeds "always", "never" or "sometimes"."""
    found = outcomes(script)
    good = (len(script), "ok")
    if found == [good]:
        return "always"
    if good in found:
        return "sometimes"
    return "never"


def is_outcome(candidate):
    """Return whether candidate is a tuple of a number of calls and a result."""
    if not isinstance(candidate, tuple) or len(candidate) != 2:
        return False
    done, result = candidate
    if not isinstance(done, int) or isinstance(done, bool):
        return False
    return 0 <= done <= MOST_CALLS and result in RESULTS


def count_paths(tree):
    """Return what count_entries returns, for what is known to be a tree."""
    return len(all_paths(tree))


def tree_with(script, outcome):
    """Return some tree with as few paths as possible on which a script has an outcome, or None."""
    check_judged(script)
    if not is_outcome(outcome):
        raise InvalidOutcome("this is not an outcome")

    def look(answers):
        if outcome_for(answers, script) != outcome:
            return None
        return answers.tree()

    return min(all_found(look), key=count_paths, default=None)


def check_facts_beside(script, facts):
    """Raise InvalidFacts if facts are not facts, or cannot be judged together with a script."""
    check_facts(facts)
    paths = all_paths_of(script)
    for fact in facts:
        paths.extend(fact_paths(fact))
    if not have_few_places(paths):
        raise InvalidFacts("the script and the facts have too many paths")


def outcomes_under(script, facts):
    """Return the ascending list of the outcomes that a script has on trees in which facts hold."""
    check_judged(script)
    check_facts_beside(script, facts)
    return outcomes_of(script, facts)


def is_enough(script, facts):
    """Return whether a script succeeds on all trees in which facts hold."""
    return all([result == "ok" for _, result in outcomes_under(script, facts)])
