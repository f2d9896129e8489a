"""[0.3], [6.1], [6.2], [6.3]: facts."""

import itertools
import random
import unittest

from helpers import JUNK, TREE, random_tree, right_tree, unchanged, wrong_values
from scripttrees.errors import InvalidFact, InvalidFacts, InvalidTree
from scripttrees.facts import are_facts, are_possible, follows, holds, is_fact, tree_for
from scripttrees.trees import is_tree
from worlds import all_trees, paths_of_facts, places_of, right_fact, right_facts

EMPTY = ((), ())
FACTS = [(), (("a", "none"),), (("a", "file"), ("a", "same", "b")), (("a", "folder"), ("a/b", "empty")),
         (("a", "apart", "b"), ("b", "same", "c/d"), ("c", "folder"), ("e", "none"))]
POOLS = (("a", "b", "c"), ("a", "a/b", "a/c"), ("a", "a/b", "c"), ("a", "a/b", "a/b/c"), ("a", "b", "a/c", "b/c"))


def true_fact(tree, fact):
    """Return whether a fact holds in a tree, found in another way than in the package."""
    files = {path: number for number, row in enumerate(tree[1]) for path in row[0]}
    path, kind = fact[0], fact[1]
    if kind == "same":
        return path in files and fact[2] in files and files[path] == files[fact[2]]
    if kind == "apart":
        return path in files and fact[2] in files and files[path] != files[fact[2]]
    if kind == "empty":
        return path in tree[0] and not any(other.startswith(path + "/") for other in list(tree[0]) + list(files))
    return kind == ("folder" if path in tree[0] else "file" if path in files else "none")


def random_fact(dice, pool):
    kind = dice.choice(("none", "file", "folder", "empty", "same", "apart"))
    if kind in ("same", "apart"):
        return dice.choice(pool), kind, dice.choice(pool)
    return dice.choice(pool), kind


def random_facts(dice, pool, most=4):
    return tuple(sorted({random_fact(dice, pool) for _ in range(dice.randint(0, most))}))


def size(tree):
    return len(tree[0]) + sum(len(paths) for paths, _ in tree[1])


class Judging(unittest.TestCase):
    def test_facts(self):
        for kind in ("none", "file", "folder", "empty"):
            self.assertIs(is_fact(("a", kind)), True)
            self.assertIs(is_fact(("a/b/c", kind)), True)
            for path in ("", "z", "a/z", "zz/a", "a/b/c/d", "a/", "A", None, 1, ["a"], ("a",)):
                self.assertIs(is_fact((path, kind)), False, path)
        for kind in ("same", "apart"):
            self.assertIs(is_fact(("a", kind, "b")), True)
            self.assertIs(is_fact(("a", kind, "a")), True)
            self.assertIs(is_fact(("b/c/d", kind, "a/b/c")), True)
            for path in ("", "z", "a/z", "a/b/c/d", None, 1, ["a"], ("a",)):
                self.assertIs(is_fact(("a", kind, path)), False, path)
                self.assertIs(is_fact((path, kind, "a")), False, path)
        for fact in (("a",), ("a", "same"), ("a", "apart"), ("a", "file", "b"), ("a", "none", "a"), ["a", "file"],
                     ("a", "full"), ("a", ""), ("a", None), ("a", ["file"]), ("a", "same", "b", "c"), (), "a", None):
            self.assertIs(is_fact(fact), False, fact)

    def test_are_facts(self):
        for facts in FACTS:
            self.assertIs(are_facts(facts), True, facts)
        for facts in ((("b", "file"), ("a", "file")), (("a", "file"), ("a", "file")), [], [("a", "file")],
                      ("a", "file"), (["a", "file"],), (("a", "file"), None), (("a", "same", "b"), ("a", "file")),
                      None, "", 0):
            self.assertIs(are_facts(facts), False, facts)

    def test_bounds(self):
        rows = tuple((name, "file") for name in "abcde")
        self.assertIs(are_facts(rows[:4]), True)
        self.assertIs(are_facts(rows), False)
        self.assertIs(are_facts((("a/b/c", "file"), ("d/e/f", "file"))), True)
        self.assertIs(are_facts((("a/b/c", "file"), ("d/e/f", "file"), ("g", "none"))), False)
        self.assertIs(are_facts((("a", "same", "b"), ("c", "same", "d"), ("e", "same", "f"))), True)
        self.assertIs(are_facts((("a", "same", "b"), ("c", "same", "d"), ("e", "same", "f/g"))), False)
        self.assertIs(are_facts((("a/b/c", "same", "d/e/f"), ("d/e/f", "apart", "a/b/c"))), True)

    def test_any_values(self):
        facts = [fact for row in FACTS for fact in row]
        for value in wrong_values(facts, 61, 1500) + facts:
            self.assertIs(is_fact(value), right_fact(value), repr(value)[:80])
        for value in wrong_values(FACTS, 62, 2500) + FACTS:
            self.assertIs(are_facts(value), right_facts(value), repr(value)[:80])


class Holding(unittest.TestCase):
    def test_examples(self):
        self.assertIs(holds(TREE, (("a/b", "empty"), ("a/f", "same", "g"))), True)
        self.assertIs(holds(TREE, ()), True)

    def test_kinds(self):
        for fact, answer in ((("a", "folder"), True), (("a", "empty"), False), (("a/b", "folder"), True),
                             (("g", "file"), True), (("g", "none"), False), (("c", "none"), True),
                             (("g/a", "none"), True), (("c/d", "none"), True), (("c", "empty"), False),
                             (("g", "empty"), False), (("g", "same", "g"), True), (("g", "apart", "g"), False),
                             (("g", "apart", "a/f"), False), (("g", "same", "c"), False), (("g", "apart", "c"), False),
                             (("a", "same", "a"), False), (("a", "apart", "g"), False), (("c", "same", "c"), False)):
            self.assertIs(holds(TREE, (fact,)), answer, fact)
        two = ((), ((("a",), ("x",)), (("b",), ("x",))))
        self.assertIs(holds(two, (("a", "apart", "b"),)), True)
        self.assertIs(holds(two, (("a", "same", "b"),)), False)
        self.assertIs(holds((("a",), ((("a/z",), ()),)), (("a", "empty"),)), False)
        self.assertIs(holds((("a", "ab"), ((("ab/c",), ()),)), (("a", "empty"),)), True)

    def test_all_must_hold(self):
        self.assertIs(holds(TREE, (("a", "folder"), ("g", "none"))), False)
        self.assertIs(holds(TREE, (("a", "file"), ("g", "file"))), False)
        dice = random.Random(63)
        for _ in range(2000):
            tree = random_tree(dice, extra=("z",))
            facts = random_facts(dice, dice.choice(POOLS))
            self.assertIs(holds(tree, facts), all(true_fact(tree, fact) for fact in facts), (tree, facts))
        unchanged(self, holds, TREE, FACTS[3])


class Possible(unittest.TestCase):
    def check(self, facts, least):
        """See that facts are possible in trees of least paths at least, or not at all if least is None."""
        self.assertIs(unchanged(self, are_possible, facts), least is not None, facts)
        tree = unchanged(self, tree_for, facts)
        if least is None:
            self.assertIsNone(tree, facts)
        else:
            self.assertTrue(is_tree(tree), facts)
            self.assertTrue(holds(tree, facts), facts)
            self.assertEqual(size(tree), least, facts)

    def test_named_edges(self):
        self.check((("a", "none"), ("a/b", "file")), None)
        self.check((), 0)
        self.check((("a", "none"),), 0)
        self.check((("a/b", "none"),), 0)
        self.check((("a/b/c", "file"),), 3)
        self.check((("a", "empty"), ("a", "folder")), 1)
        self.check((("a", "empty"), ("a", "file")), None)
        self.check((("a", "file"), ("a", "folder")), None)
        self.check((("a", "file"), ("a", "none")), None)
        self.check((("a", "empty"), ("a/b", "none")), 1)
        self.check((("a", "empty"), ("a/b", "file")), None)
        self.check((("a", "empty"), ("a/b/c", "none")), 1)
        self.check((("a", "empty"), ("a/b/c", "folder")), None)
        self.check((("a", "file"), ("a/b", "none")), 1)
        self.check((("a", "file"), ("a/b", "empty")), None)
        self.check((("a", "same", "a"),), 1)
        self.check((("a", "apart", "a"),), None)
        self.check((("a", "same", "b"),), 2)
        self.check((("a", "apart", "b"),), 2)
        self.check((("a", "apart", "b"), ("a", "same", "b")), None)
        self.check((("a", "apart", "b"), ("b", "same", "a")), None)
        self.check((("a", "same", "b"), ("b", "same", "c")), 3)
        self.check((("a", "apart", "c"), ("a", "same", "b"), ("b", "same", "c")), None)
        self.check((("a", "apart", "d"), ("a", "same", "b"), ("c", "same", "d")), 4)
        self.check((("a", "apart", "d"), ("a", "same", "b"), ("b", "same", "c"), ("c", "same", "d")), None)
        self.check((("a", "same", "a/b"),), None)
        self.check((("a", "apart", "a/b"),), None)
        self.check((("a", "folder"), ("a", "same", "b")), None)
        self.check((("a", "none"), ("b", "apart", "a")), None)

    def test_all_small_trees(self):
        dice = random.Random(64)
        possible = 0
        for turn in range(900):
            pool = POOLS[turn % len(POOLS)]
            facts = random_facts(dice, pool)
            found = [size(tree) for tree in all_trees(places_of(pool)) if all(true_fact(tree, fact) for fact in facts)]
            self.check(facts, min(found) if found else None)
            possible += len(found) > 0
        self.assertTrue(200 < possible < 700, possible)


class Following(unittest.TestCase):
    def test_named_edges(self):
        for facts, fact, answer in (
                ((("a/b", "file"),), ("a", "folder"), True), ((), ("a", "none"), False), ((), ("a", "file"), False),
                ((), ("a", "same", "a"), False), ((("a", "file"),), ("a", "same", "a"), True),
                ((("a", "file"), ("a", "none")), ("b", "file"), True), ((("a", "apart", "a"),), ("b", "empty"), True),
                ((("a", "empty"),), ("a", "folder"), True), ((("a", "folder"),), ("a", "empty"), False),
                ((("a", "empty"),), ("a/b", "none"), True), ((("a", "empty"),), ("a/b/c", "none"), True),
                ((("a", "none"),), ("a/b", "none"), True), ((("a", "file"),), ("a/b", "none"), True),
                ((("a/b", "none"),), ("a", "none"), False), ((("a", "folder"), ("a/b", "none")), ("a", "empty"), False),
                ((("a", "same", "b"),), ("b", "same", "a"), True), ((("a", "same", "b"),), ("b", "file"), True),
                ((("a", "same", "b"), ("b", "same", "c")), ("c", "same", "a"), True),
                ((("a", "apart", "b"), ("b", "same", "c")), ("a", "apart", "c"), True),
                ((("a", "apart", "b"), ("b", "apart", "c")), ("a", "apart", "c"), False),
                ((("a", "apart", "b"), ("b", "apart", "c")), ("a", "same", "c"), False),
                ((("a", "file"), ("b", "file")), ("a", "same", "b"), False),
                ((("a/b", "same", "c/d"),), ("c", "folder"), True), ((("a", "none"),), ("a", "none"), True),
                ((("a/b/c", "empty"),), ("a/b/c", "empty"), True), ((("a/b/c", "folder"),), ("a/b/c", "empty"), False)):
            self.assertIs(unchanged(self, follows, facts, fact), answer, (facts, fact))

    def test_all_small_trees(self):
        dice = random.Random(65)
        answers = []
        for turn in range(1500):
            pool = POOLS[turn % len(POOLS)]
            facts = random_facts(dice, pool, 3)
            fact = random_fact(dice, pool)
            answer = all(true_fact(tree, fact) for tree in all_trees(places_of(pool))
                         if all(true_fact(tree, row) for row in facts))
            self.assertIs(follows(facts, fact), answer, (facts, fact))
            answers.append(answer)
        self.assertTrue(200 < sum(answers) < 1300, sum(answers))

    def test_pairs_of_facts(self):
        pool = ("a", "a/b")
        rows = [(path, kind) for path in pool for kind in ("none", "file", "folder", "empty")]
        rows += [(one, kind, other) for one in pool for other in pool for kind in ("same", "apart")]
        trees = all_trees(pool)
        for one, other in itertools.product(rows, rows):
            answer = all(true_fact(tree, other) for tree in trees if true_fact(tree, one))
            self.assertIs(follows((one,), other), answer, (one, other))


class WrongArguments(unittest.TestCase):
    def test_wrong_facts(self):
        for facts in [value for value in wrong_values(FACTS, 66, 300) if not right_facts(value)]:
            for arguments in ((holds, TREE, facts), (are_possible, facts), (tree_for, facts),
                              (follows, facts, ("a", "file")), (follows, facts, None)):
                with self.assertRaises(InvalidFacts):
                    arguments[0](*arguments[1:])

    def test_wrong_fact(self):
        for fact in wrong_values([fact for row in FACTS for fact in row], 67, 300):
            if not right_fact(fact):
                with self.assertRaises(InvalidFact):
                    follows((), fact)

    def test_too_many_places(self):
        facts = (("a/b/c", "file"), ("d/e", "file"))
        self.assertEqual(len(places_of(paths_of_facts(facts))), 5)
        self.assertIs(follows(facts, ("d/f", "none")), False)
        self.assertIs(follows(facts, ("d/e", "file")), True)
        for fact in (("f/g", "none"), ("f", "same", "g"), ("d/f", "same", "g")):
            with self.assertRaises(InvalidFact):
                follows(facts, fact)
        self.assertIs(follows(((("a/b/c", "none")),), ("d/e/f", "none")), False)
        with self.assertRaises(InvalidFact):
            follows((("a/b/c", "none"), ("d", "none")), ("e/f/g", "none"))

    def test_wrong_trees_come_first(self):
        for tree in [value for value in wrong_values([TREE], 68, 100) if not right_tree(value)]:
            for facts in ((), [], None, JUNK[0]):
                with self.assertRaises(InvalidTree):
                    holds(tree, facts)
