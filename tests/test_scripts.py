"""[0.2] (a), [0.3], [4.1], [4.2], [4.3]: scripts."""

import random
import unittest

from helpers import TREE, random_call, random_tree, right_tree, unchanged, wrong_values
from plain import plain_call, plain_run
from scripttrees.errors import InvalidScript, InvalidTree
from scripttrees.scripts import is_script, run, script_paths, succeeds, trees_along
from worlds import right_script

EMPTY = ((), ())
SCRIPTS = [(), (("folder", "a"),), (("folder", "a"), ("file", "a/f")), (("move", "a", "b/c"), ("write", "a", "x")),
           (("drop", "a"),) * 6]


class Judging(unittest.TestCase):
    def test_scripts(self):
        for script in SCRIPTS:
            self.assertIs(is_script(script), True, script)

    def test_bounds(self):
        self.assertIs(is_script((("folder", "a"),) * 6), True)
        self.assertIs(is_script((("folder", "a"),) * 7), False)
        self.assertIs(is_script(()), True)

    def test_wrong_scripts(self):
        for script in ([], [("folder", "a")], ("folder", "a"), (["folder", "a"],), (("folder", "z"),),
                       (("folder", "a"), None), "", None, 0, ((),), (("folder", "a"), ("folder", "a/b/c/d"))):
            self.assertIs(is_script(script), False, script)

    def test_any_values(self):
        for value in wrong_values(SCRIPTS, 41, 2000):
            self.assertIs(is_script(value), right_script(value), repr(value)[:80])

    def test_script_paths(self):
        self.assertEqual(script_paths((("folder", "a"), ("file", "a/f"))), ["a", "a/f"])
        self.assertEqual(script_paths(()), [])
        self.assertEqual(script_paths((("move", "b/c", "a"), ("write", "a", "q"), ("copy", "ab", "a"))),
                         ["a", "ab", "b/c"])
        self.assertEqual(unchanged(self, script_paths, (("move", "b", "a"),)), ["a", "b"])


class Running(unittest.TestCase):
    def test_examples(self):
        script = (("remove", "g"), ("drop", "a/f"))
        self.assertEqual(run(TREE, script), (1, "not folder", (("a", "a/b"), ((("a/f",), ("x", "y")),))))
        self.assertIs(succeeds(TREE, (("drop", "a/b"), ("folder", "a/b"))), True)

    def test_empty_script(self):
        self.assertEqual(run(TREE, ()), (0, "ok", TREE))
        self.assertIs(succeeds(TREE, ()), True)
        self.assertEqual(trees_along(TREE, ()), [TREE])

    def test_first_failure_ends_it(self):
        script = (("folder", "c"), ("folder", "c/d"), ("drop", "c"), ("drop", "c/d"), ("file", "h"))
        after = (("a", "a/b", "c", "c/d"), TREE[1])
        self.assertEqual(run(TREE, script), (2, "not empty", after))
        self.assertIs(succeeds(TREE, script), False)
        self.assertEqual(trees_along(TREE, script), [TREE, (("a", "a/b", "c"), TREE[1]), after])
        self.assertEqual(run(TREE, (("drop", "q"), ("file", "h"))), (0, "missing", TREE))
        self.assertEqual(trees_along(TREE, (("drop", "q"), ("file", "h"))), [TREE])
        self.assertIs(succeeds(TREE, (("file", "h"), ("file", "h"))), False)

    def test_trees_along(self):
        script = (("append", "g", "q"), ("move", "a", "c"), ("move", "c", "c"))
        last = (("c", "c/b"), ((("c/f", "g"), ("x", "y", "q")),))
        self.assertEqual(trees_along(TREE, script), [TREE, (TREE[0], ((("a/f", "g"), ("x", "y", "q")),)), last, last])

    def test_beyond_the_bounds_on_the_way(self):
        full = ((), ((("a",), ("x",) * 20),))
        script = (("append", "a", "y"),) * 3 + (("copy", "a", "b"), ("write", "a", "q"), ("remove", "b"))
        self.assertEqual(run(full, script), (6, "ok", ((), ((("a",), ("q",)),))))
        self.assertEqual(len(trees_along(full, script)[3][1][0][1]), 23)
        names = sorted(one + other for one in "abcdefghij" for other in "abcdefghij")
        done, result, tree = run((tuple(names), ()), (("folder", "q"), ("file", "r"), ("drop", "aa")))
        self.assertEqual((done, result, len(tree[0]), len(tree[1])), (3, "ok", 100, 1))

    def test_random_scripts(self):
        dice = random.Random(42)
        paths = ("a", "b", "c", "a/a", "a/b", "b/a", "a/b/c", "b/c")
        ends = set()
        for _ in range(3000):
            tree = random_tree(dice, extra=("q", "z"))
            script = tuple(random_call(dice, paths) for _ in range(dice.randint(0, 6)))
            answer = plain_run(tree, script)
            self.assertEqual(run(tree, script), answer, (tree, script))
            self.assertIs(succeeds(tree, script), answer[0] == len(script))
            trees = [tree]
            for call in script[:answer[0]]:
                trees.append(plain_call(trees[-1], call)[1])
            self.assertEqual(trees_along(tree, script), trees)
            self.assertEqual(trees[-1], answer[2])
            ends.add(answer[:2])
        self.assertGreater(len(ends), 18)

    def test_arguments_and_answers(self):
        script = (("remove", "g"), ("drop", "a/f"))
        unchanged(self, run, TREE, script)
        unchanged(self, succeeds, TREE, script)
        self.assertEqual(len(unchanged(self, trees_along, TREE, script)), 2)


class WrongArguments(unittest.TestCase):
    def test_wrong_scripts(self):
        scripts = [value for value in wrong_values(SCRIPTS, 43, 200) if not right_script(value)]
        for script in scripts:
            with self.assertRaises(InvalidScript):
                script_paths(script)
            for function in (run, succeeds, trees_along):
                with self.assertRaises(InvalidScript):
                    function(TREE, script)

    def test_wrong_trees_come_first(self):
        for tree in [value for value in wrong_values([TREE], 44, 100) if not right_tree(value)]:
            for script in ((), [], None, (("folder", "a"),) * 7):
                for function in (run, succeeds, trees_along):
                    with self.assertRaises(InvalidTree):
                        function(tree, script)
