"""All small trees over some paths, and groups of scripts."""

import functools
import random

from helpers import SHAPES, right_call, right_call_path

POOLS = (("a", "b", "c", "d", "e", "f"), ("a", "b", "a/a", "a/b", "b/a", "b/b"), ("a", "b", "c", "a/b", "b/c", "d"),
         ("a", "a/b", "a/b/c", "b", "c", "d"), ("a", "a/a", "a/a/a", "b", "b/a", "b/a/a"), ("a", "b", "b/a"),
         ("a", "b", "c", "c/a", "c/b", "c/a/b"), ("a", "b", "c"), ("a", "a/b", "b"))
# Many moves and drops: most depends on what stands below folders, and on which files are the same.
KINDS = tuple(SHAPES) + ("move",) * 9 + ("drop",) * 5 + ("link", "remove") * 3


def places_of(paths):
    """Return the paths and all their beginnings."""
    found = set()
    for path in paths:
        names = path.split("/")
        found.update("/".join(names[:many]) for many in range(1, len(names) + 1))
    return tuple(sorted(found))


def partitions(rows):
    """Return all ways to put rows into groups."""
    if not rows:
        return [[]]
    found = []
    for rest in partitions(rows[1:]):
        found.append([[rows[0]]] + rest)
        for at in range(len(rest)):
            found.append(rest[:at] + [[rows[0]] + rest[at]] + rest[at + 1:])
    return found


@functools.lru_cache(maxsize=None)
def all_trees(places):
    """Return all trees over some places, each of their folders with and without an entry beside them."""
    found = []

    def grow(left, folders, files):
        if not left:
            found.extend((folders, tuple(sorted((tuple(sorted(group)), ()) for group in groups)))
                         for groups in partitions(list(files)))
            return
        path, rest = left[0], left[1:]
        home = path.rpartition("/")[0]
        grow(rest, folders, files)
        if home == "" or home in folders:
            grow(rest, folders, files + (path,))
            grow(rest, folders + (path,), files)

    grow(places, (), ())
    trees = []
    for folders, files in found:
        for number in range(2 ** len(folders)):
            more = [((folders[at] + "/zz",), ()) for at in range(len(folders)) if number >> at & 1]
            trees.append((folders, tuple(sorted(files + tuple(more)))))
    return trees


def with_words(tree, words):
    """Return a tree in which each file has the words that a function tells for its number."""
    return tree[0], tuple((paths, words(at)) for at, (paths, _) in enumerate(tree[1]))


def with_further(tree, chosen):
    """Return a tree in which each of the files with chosen numbers has a further path."""
    rows = [(paths + ("zz" + chr(97 + at),) if at in chosen else paths, words) for at, (paths, words) in enumerate(tree[1])]
    return tree[0], tuple(sorted((tuple(sorted(paths)), words) for paths, words in rows))


def with_own_entries(tree):
    """Return a tree in which the further entries of two folders have different names."""
    rows = [(tuple("%s/q%s" % (path[:-3], chr(97 + tree[0].index(path[:-3]))) if path.endswith("/zz") else path
                   for path in paths), words) for paths, words in tree[1]]
    return tree[0], tuple(sorted((tuple(sorted(paths)), words) for paths, words in rows))


@functools.lru_cache(maxsize=None)
def rich_trees(places):
    """Return all trees over some places, also with words, with further paths of files, and with further entries."""
    dice = random.Random(len(places))
    found = []

    def some_words(_):
        return tuple(dice.choice(("x", "y", "zo")) for _ in range(dice.randint(0, 2)))

    for tree in all_trees(places):
        own = with_words(tree, lambda at: ("z" + chr(97 + at),))
        alike = with_words(tree, lambda at: ("x",))
        numbers = range(len(tree[1]))
        found.extend([tree, own, alike, with_further(own, numbers), with_further(with_own_entries(own), numbers),
                      with_words(tree, some_words),
                      with_further(with_words(tree, some_words), [at for at in numbers if dice.random() < 0.5])])
    return found


# Pools of paths, each with places over which all trees show all that scripts of few calls with these paths can do.
FULL_POOLS = ((("a", "b", "c"), ("a", "b", "c")), (("a", "b"), ("a", "b")), (("a", "a/b"), ("a", "a/b", "a/b/b")),
              (("a", "a/b", "b"), ("a", "a/b", "a/b/b", "b", "b/b")))


def kinds_of(tree, path):
    """Return the kinds of the facts that hold at a path of a tree."""
    paths = [other for paths, _ in tree[1] for other in paths]
    if path in paths:
        return {"file"}
    if path not in tree[0]:
        return {"none"}
    return {"folder"} if any(other.startswith(path + "/") for other in paths + list(tree[0])) else {"folder", "empty"}


def size(tree):
    return len(tree[0]) + sum(len(paths) for paths, _ in tree[1])


def random_script(dice, pool, most, words="x"):
    script = []
    for _ in range(dice.randint(0, most)):
        kind = dice.choice(KINDS)
        script.append((kind,) + tuple(dice.choice(pool) if sign == "p" else dice.choice(words)
                                      for sign in SHAPES[kind]))
    return tuple(script)


def nearly(dice, script, pool):
    """Return a script that is like another one but for its order, a call or nothing."""
    rows = list(script)
    turn = dice.randrange(4)
    if turn == 0:
        dice.shuffle(rows)
    elif rows:
        at = dice.randrange(len(rows))
        if turn == 1:
            del rows[at]
        elif turn == 2:
            rows[at:at + 1] = random_script(dice, pool, 1, "xy")
    return tuple(rows)


def random_group(dice, most_scripts=3):
    """Return a group and the pool of its paths."""
    while True:
        pool = dice.choice(POOLS)
        group = [random_script(dice, pool, 4) for _ in range(dice.randint(1, most_scripts))]
        if right_group(group):
            return group, pool


def right_script(candidate):
    return type(candidate) is tuple and len(candidate) <= 6 and all(right_call(call) for call in candidate)


def paths_of_script(script):
    return [path for call in script for path, sign in zip(call[1:], SHAPES[call[0]]) if sign == "p"]


def right_group(candidate):
    if type(candidate) is not list or len(candidate) not in (1, 2, 3):
        return False
    if not all(right_script(script) and len(script) <= 4 for script in candidate):
        return False
    return len(places_of([path for script in candidate for path in paths_of_script(script)])) <= 6


def right_fact(candidate):
    if type(candidate) is not tuple or len(candidate) not in (2, 3) or not right_call_path(candidate[0]):
        return False
    if len(candidate) == 2:
        return candidate[1] in ("none", "file", "folder", "empty")
    return candidate[1] in ("same", "apart") and right_call_path(candidate[2])


def paths_of_facts(facts):
    return [path for fact in facts for path in fact[::2]]


def right_facts(candidate):
    if type(candidate) is not tuple or len(candidate) > 4 or not all(right_fact(fact) for fact in candidate):
        return False
    if any(candidate[at] >= candidate[at + 1] for at in range(len(candidate) - 1)):
        return False
    return len(places_of(paths_of_facts(candidate))) <= 6


def right_judged(candidate, most=4):
    return right_script(candidate) and len(candidate) <= most and right_group([candidate])


def right_pair(one, other, most=3):
    return all(right_script(script) and len(script) <= most for script in (one, other)) and right_group([one, other])
