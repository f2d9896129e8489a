"""Facts about trees."""

from scripttrees.building import built_tree, merged
from scripttrees.errors import InvalidFact, InvalidFacts
from scripttrees.names import FRESH_NAME, have_few_places, is_call_path, joined, way_to
from scripttrees.trees import check_tree, entry_names, file_row, is_ascending, kind_in

KINDS = ("none", "file", "folder", "empty")
PAIR_KINDS = ("same", "apart")
MOST_FACTS = 4


def is_fact(candidate):
    """Return whether candidate is a fact."""
    if not isinstance(candidate, tuple) or len(candidate) not in (2, 3):
        return False
    if not is_call_path(candidate[0]):
        return False
    if len(candidate) == 2:
        return candidate[1] in KINDS
    return candidate[1] in PAIR_KINDS and is_call_path(candidate[2])


def fact_paths(fact):
    """Return the list of the paths of a fact."""
    if fact[1] in PAIR_KINDS:
        return [fact[0], fact[2]]
    return [fact[0]]


def are_few(facts):
    """Return whether the paths of some facts with all their beginnings are few enough."""
    return have_few_places([path for fact in facts for path in fact_paths(fact)])


def are_facts(candidate):
    """Return whether candidate is facts."""
    if not isinstance(candidate, tuple) or len(candidate) > MOST_FACTS:
        return False
    return all([is_fact(fact) for fact in candidate]) and is_ascending(candidate) and are_few(candidate)


def check_facts(facts):
    """Raise InvalidFacts if facts are not facts."""
    if not are_facts(facts):
        raise InvalidFacts("these are not facts")


def does_hold(tree, fact):
    """Return whether a fact holds in a tree."""
    path = fact[0]
    if fact[1] in PAIR_KINDS:
        one = file_row(tree, path)
        other = file_row(tree, fact[2])
        if one is None or other is None:
            return False
        return (one == other) == (fact[1] == "same")
    kind = kind_in(tree, path)
    if fact[1] == "empty":
        return kind == "folder" and not entry_names(tree, path)
    return kind == fact[1]


def holds(tree, facts):
    """Return whether all facts hold in a tree."""
    check_tree(tree)
    check_facts(facts)
    return all([does_hold(tree, fact) for fact in facts])


def folders_for(fact):
    """Return the list of the paths that lead to folders wherever a fact holds."""
    if fact[1] == "none":
        return []
    folders = [folder for path in fact_paths(fact) for folder in way_to(path)]
    if fact[1] in ("folder", "empty"):
        folders.append(fact[0])
    return folders


def files_for(fact):
    """Return the list of the paths that lead to files wherever a fact holds."""
    if fact[1] == "file" or fact[1] in PAIR_KINDS:
        return fact_paths(fact)
    return []


def least_tree(facts):
    """Return the tree with as few paths as possible in which facts hold, or None."""
    folders = {path: True for fact in facts for path in folders_for(fact)}
    leaders = {path: path for fact in facts for path in files_for(fact)}
    if any([path in folders for path in leaders]):
        return None
    for fact in facts:
        if fact[1] == "same":
            leaders = merged(leaders, fact[0], fact[2])
    tree = built_tree(list(folders), leaders)
    # All in this tree is in each tree in which the facts hold; if too much is in it, there is none.
    if all([does_hold(tree, fact) for fact in facts]):
        return tree
    return None


def are_possible(facts):
    """Return whether there is a tree in which facts hold."""
    check_facts(facts)
    return least_tree(facts) is not None


def tree_for(facts):
    """Return some tree with as few paths as possible in which facts hold, or None."""
    check_facts(facts)
    return least_tree(facts)


def opposites(fact):
    """Return a list of facts such that wherever a fact does not hold, one of them does, and nowhere else."""
    if fact[1] in PAIR_KINDS:
        other = "apart" if fact[1] == "same" else "same"
        rest = [(path, kind) for path in fact_paths(fact) for kind in ("none", "folder")]
        return rest + [(fact[0], other, fact[2])]
    rest = [(fact[0], kind) for kind in ("none", "file", "folder") if kind != fact[1]]
    if fact[1] == "empty":
        # A folder with an entry; "folder" alone would be true of an empty one, too.
        return rest[:2] + [(joined(fact[0], FRESH_NAME), "file")]
    return rest


def follows(facts, fact):
    """Return whether a fact holds in all trees in which facts hold."""
    check_facts(facts)
    if not is_fact(fact) or not are_few(list(facts) + [fact]):
        raise InvalidFact("this is not a fact, or there are too many paths")
    return all([least_tree(list(facts) + [opposite]) is None for opposite in opposites(fact)])
