"""[0.3], [9.1], [9.2], [9.3]: what holds wherever a script succeeds."""

import random
import time
import unittest

from helpers import random_tree, unchanged, wrong_values
from plain import plain_run
from scripttrees.conditions import are_needs_enough, needs, promises
from scripttrees.errors import InvalidScript
from worlds import FULL_POOLS, kinds_of, paths_of_script, places_of, random_script, rich_trees, right_judged

SCRIPTS = [(), (("folder", "a"),), (("remove", "a"), ("drop", "b")), (("move", "a", "b/c"), ("write", "a", "x")),
           (("link", "a", "b"), ("remove", "a"), ("append", "b", "x"), ("drop", "c/d"))]


def shared_facts(places, trees):
    """Return the facts about kinds that hold in all of some trees, or [] if there are none."""
    if not trees:
        return []
    return [(path, kind) for path in places
            for kind in sorted(set.intersection(*[kinds_of(tree, path) for tree in trees]))]


def what_trees_show(script, trees):
    """Return what the functions for conditions should return, as far as some trees show."""
    places = places_of(paths_of_script(script))
    runs = [(tree, plain_run(tree, script)) for tree in trees]
    good = [(tree, end) for tree, (done, _, end) in runs if done == len(script)]
    needed = shared_facts(places, [tree for tree, _ in good])
    is_enough = bool(good) and all(done == len(script) for tree, (done, _, _) in runs
                                   if all(kind in kinds_of(tree, path) for path, kind in needed))
    return needed, is_enough, shared_facts(places, [end for _, end in good])


class Conditions(unittest.TestCase):
    def check(self, script, needed, is_enough, promised):
        self.assertEqual(unchanged(self, needs, script), needed, script)
        self.assertIs(unchanged(self, are_needs_enough, script), is_enough, script)
        self.assertEqual(unchanged(self, promises, script), promised, script)

    def test_examples(self):
        self.check((("file", "a/b"),), [("a", "folder"), ("a/b", "none")], True, [("a", "folder"), ("a/b", "file")])
        self.assertIs(are_needs_enough((("move", "a", "b"),)), False)
        self.assertEqual(promises((("folder", "a"),)), [("a", "empty"), ("a", "folder")])

    def test_always_and_never(self):
        self.check((), [], True, [])
        self.check((("folder", "a"), ("file", "a")), [], False, [])
        self.check((("copy", "a/b", "a/b"),), [], False, [])

    def test_scripts_without_needs(self):
        self.check((("move", "a", "a"),), [], False, [])

    def test_each_kind_of_call(self):
        self.check((("folder", "a"),), [("a", "none")], True, [("a", "empty"), ("a", "folder")])
        self.check((("file", "a"),), [("a", "none")], True, [("a", "file")])
        self.check((("write", "a", "x"),), [("a", "file")], True, [("a", "file")])
        self.check((("append", "a/b", "x"),), [("a", "folder"), ("a/b", "file")], True, [("a", "folder"), ("a/b", "file")])
        for kind in ("copy", "link"):
            self.check(((kind, "a", "b"),), [("a", "file"), ("b", "none")], True, [("a", "file"), ("b", "file")])
        self.check((("remove", "a"),), [("a", "file")], True, [("a", "none")])
        self.check((("drop", "a"),), [("a", "empty"), ("a", "folder")], True, [("a", "none")])
        self.check((("drop", "a/b"),), [("a", "folder"), ("a/b", "empty"), ("a/b", "folder")], True,
                   [("a", "folder"), ("a/b", "none")])
        self.check((("move", "a", "b"),), [], False, [])
        self.check((("move", "a", "b/c"),), [("b", "folder")], False, [("b", "folder")])

    def test_several_calls(self):
        # The file may have been the only entry, or a further one may be left.
        self.check((("remove", "a/b"),), [("a", "folder"), ("a/b", "file")], True, [("a", "folder"), ("a/b", "none")])
        # That nothing else is in the folder is no fact about one place.
        self.check((("remove", "a/b"), ("drop", "a")), [("a", "folder"), ("a/b", "file")], False,
                   [("a", "none"), ("a/b", "none")])
        self.check((("move", "a", "b"), ("drop", "b")), [("a", "empty"), ("a", "folder")], False,
                   [("a", "none"), ("b", "none")])
        self.check((("folder", "a"), ("file", "a/b")), [("a", "none"), ("a/b", "none")], True,
                   [("a", "folder"), ("a/b", "file")])
        self.check((("drop", "a"), ("folder", "a"), ("folder", "a/b")),
                   [("a", "empty"), ("a", "folder"), ("a/b", "none")], True,
                   [("a", "folder"), ("a/b", "empty"), ("a/b", "folder")])
        # Two paths of one file are needed for the second call; this is no fact about a kind.
        self.check((("move", "a", "b"), ("remove", "a")), [("a", "file"), ("b", "file")], False,
                   [("a", "none"), ("b", "file")])
        self.check((("drop", "a/b"), ("drop", "a")),
                   [("a", "folder"), ("a/b", "empty"), ("a/b", "folder")], False, [("a", "none"), ("a/b", "none")])
        self.check((("move", "a", "b"), ("write", "b", "x")), [("a", "file")], False, [("b", "file")])
        # What comes to a place with a folder that is moved stands elsewhere at the beginning.
        self.check((("folder", "c"), ("move", "a", "c"), ("drop", "c/b")),
                   [("a", "folder"), ("c", "none"), ("c/b", "none")], False,
                   [("a", "none"), ("c", "folder"), ("c/b", "none")])

    def test_all_small_trees(self):
        dice = random.Random(91)
        filled = 0
        for turn in range(160):
            pool, places = FULL_POOLS[turn % len(FULL_POOLS)]
            script = random_script(dice, pool, 4, "xy")
            needed, is_enough, promised = what_trees_show(script, rich_trees(places))
            self.assertEqual(needs(script), needed, script)
            self.assertIs(are_needs_enough(script), is_enough, script)
            self.assertEqual(promises(script), promised, script)
            filled += len(needed) > 0
        self.assertGreater(filled, 30)

    def test_large_trees(self):
        """What is needed and promised holds in large trees, too."""
        dice = random.Random(92)
        pool = ("a", "b", "a/c", "b/c", "a/c/b", "c")
        good = 0
        for _ in range(150):
            script = random_script(dice, pool, 3, "xy")
            needed, promised, is_enough = needs(script), promises(script), are_needs_enough(script)
            for _ in range(40):
                tree = random_tree(dice, ("a", "b", "c"), dice.choice((5, 10, 25)), 5, ("q", "z"))
                done, _, end = plain_run(tree, script)
                holding = all(kind in kinds_of(tree, path) for path, kind in needed)
                if done == len(script):
                    good += 1
                    self.assertTrue(holding, (tree, script))
                    self.assertTrue(all(kind in kinds_of(end, path) for path, kind in promised), (tree, script))
                elif is_enough:
                    self.assertFalse(holding, (tree, script))
        self.assertGreater(good, 300)

    def test_longest_scripts(self):
        script = (("move", "a", "b"), ("move", "c", "d"), ("move", "e", "f"), ("move", "f", "a"))
        start = time.perf_counter()
        self.check(script, [], False, [])
        self.assertLess(time.perf_counter() - start, 5)


class WrongArguments(unittest.TestCase):
    def check_wrong(self, script):
        for function in (needs, are_needs_enough, promises):
            with self.assertRaises(InvalidScript, msg=repr(script)[:100]):
                function(script)

    def test_bounds(self):
        self.assertEqual(needs((("append", "a", "x"),) * 4), [("a", "file")])
        self.check_wrong((("append", "a", "x"),) * 5)
        six = (("file", "a/b/c"), ("file", "d/e/f"))
        self.assertEqual(len(needs(six)), 6)
        self.check_wrong(six + (("file", "g"),))

    def test_wrong_scripts(self):
        for value in wrong_values(SCRIPTS, 93, 300):
            if right_judged(value):
                self.assertIsInstance(needs(value), list)
            else:
                self.check_wrong(value)
