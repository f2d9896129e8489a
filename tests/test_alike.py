"""[0.2] (b) and (c), [0.3], [10.1], [10.2], [10.3]: two scripts."""

import random
import time
import unittest

from helpers import random_tree, right_tree, unchanged, wrong_values
from plain import plain_run
from scripttrees.alike import do_commute, parting_tree, same_effect, same_if_good
from scripttrees.errors import InvalidScript
from worlds import FULL_POOLS, nearly, random_script, rich_trees, right_pair

SCRIPTS = [(), (("folder", "a"),), (("remove", "a"), ("drop", "b")), (("move", "a", "b"), ("write", "a", "x")),
           (("link", "a", "b"), ("remove", "a"), ("append", "b", "x"))]
WRITE, APPEND, REMOVE = ("write", "a", "x"), ("append", "a", "x"), ("remove", "a")


def effect(tree, script):
    return plain_run(tree, script)[1:]


class Effects(unittest.TestCase):
    def check(self, one, other, is_same):
        """See that two scripts have the same effect or not; if not, a tree must show it."""
        for first, second in ((one, other), (other, one)):
            self.assertIs(unchanged(self, same_effect, first, second), is_same, (first, second))
            tree = unchanged(self, parting_tree, first, second)
            if is_same:
                self.assertIsNone(tree, (first, second))
            else:
                self.assertTrue(right_tree(tree), (first, second, tree))
                self.assertNotEqual(effect(tree, first), effect(tree, second), (first, second, tree))
        if is_same:
            self.assertIs(same_if_good(one, other), True, (one, other))

    def test_examples(self):
        self.check((("folder", "a"), ("drop", "a")), (("drop", "a"), ("folder", "a")), False)
        self.assertIs(same_if_good((REMOVE, ("file", "a")), (REMOVE, ("file", "a"), ("file", "b"))), False)
        self.assertIs(do_commute((("append", "a", "x"),), (("append", "b", "y"),)), False)

    def test_always_and_never(self):
        self.check((), (), True)
        self.check((), (("folder", "a"),), False)
        self.check((("folder", "a"), ("file", "a")), (), False)
        self.check((), (("move", "a", "a"),), False)
        # Both fail always, the second one with other results.
        self.check((("copy", "a", "a"),), (("link", "a", "a"),), True)
        self.check((("copy", "a", "a"),), (("folder", "a"), ("file", "a")), False)
        # The folder is left behind where the second call fails.
        self.check((("folder", "a"), ("file", "a")), (("folder", "a"), ("folder", "a")), True)
        self.check((("folder", "a"), ("file", "a")), (("file", "a"), ("file", "a")), False)

    def test_number_of_calls_does_not_count(self):
        self.check((WRITE, WRITE), (WRITE,), True)
        # On a folder the first script ends one call later than the second one, with the same result.
        self.check((("move", "a", "a"), WRITE), (("append", "a", "y"), WRITE), True)
        self.check((("file", "a"), ("file", "a")), (("file", "a"),), False)

    def test_words(self):
        self.check((WRITE,), (("write", "a", "y"),), False)
        self.check((WRITE,), (("write", "a", "y"), WRITE), True)
        self.check((WRITE, WRITE), (WRITE, WRITE, WRITE), True)
        self.check((APPEND,), (APPEND, APPEND), False)
        self.check((APPEND,), (WRITE,), False)
        self.check((WRITE, APPEND), (APPEND, WRITE, APPEND), True)
        # A file may have these words already, but not on all trees.
        self.check((WRITE, APPEND), (("write", "a", "x"),), False)
        self.check((("copy", "a", "b"), WRITE), (("copy", "a", "b"),), False)
        self.check((("file", "a"),), (("file", "a"), WRITE), False)
        self.check((("file", "a"), APPEND), (("file", "a"), WRITE), True)
        self.check((("copy", "a", "b"), ("write", "b", "x")), (("copy", "a", "b"), ("append", "b", "x")), False)

    def test_words_of_files_that_may_be_the_same(self):
        one, other = ("write", "a", "x"), ("write", "b", "y")
        self.check((("move", "a", "a"), ("move", "b", "b"), one), (("move", "a", "a"), ("move", "b", "b"), other), False)
        # Where both paths lead to one file, the later word stays.
        tree = ((), ((("a", "b"), ()),))
        self.assertNotEqual(effect(tree, (one, other)), effect(tree, (other, one)))
        self.assertIs(same_if_good((one, other), (other, one)), False)
        self.assertIs(same_if_good((one, ("write", "b", "x")), (("write", "b", "x"), one)), True)
        self.assertIs(same_if_good((APPEND, ("append", "b", "x")), (("append", "b", "x"), APPEND)), True)
        self.assertIs(same_if_good((APPEND, ("append", "b", "y")), (("append", "b", "y"), APPEND)), False)
        self.assertIs(same_if_good((("copy", "a", "c"), ("write", "b", "x")), (("write", "b", "x"), ("copy", "a", "c"))),
                      False)

    def test_files_with_further_paths(self):
        # The copy is another file than the one that was taken away.
        self.check((("copy", "a", "b"), REMOVE), (("link", "a", "b"), REMOVE), False)
        self.check((("link", "a", "b"), REMOVE), (("link", "a", "b"), ("move", "a", "b"), REMOVE), True)
        self.assertIs(same_if_good((("link", "a", "b"), REMOVE), (("move", "a", "b"),)), True)
        self.assertIs(same_if_good((("copy", "a", "b"), REMOVE), (("move", "a", "b"),)), False)
        self.assertIs(same_if_good((REMOVE, ("file", "a")), (("write", "a", "x"),)), False)
        self.assertIs(same_if_good((("append", "b", "x"), ("move", "a", "b"), ("write", "b", "x")),
                                   (("move", "a", "a"), ("move", "a", "b"), ("write", "b", "x"))), False)
        # Even an empty file is another one than the one before.
        self.check((REMOVE, ("file", "a"), WRITE), (WRITE,), False)

    def test_moves(self):
        self.check((("move", "a", "a"),), (("move", "a", "a"), ("move", "a", "a")), True)
        self.check((("move", "a", "b"), ("move", "b", "c")), (("move", "a", "c"),), False)
        # b may lead to another file, which goes away, or to a folder.
        self.assertIs(same_if_good((("move", "a", "b"), ("move", "b", "c")), (("move", "a", "c"),)), False)
        self.assertIs(same_if_good((("remove", "b"), ("move", "a", "b")), (("move", "a", "b"),)), False)
        self.assertIs(same_if_good((("drop", "b"), ("move", "a", "b")), (("move", "a", "b"),)), False)
        self.assertIs(same_if_good((("drop", "b"), ("folder", "b"), ("drop", "a")), (("drop", "b"), ("folder", "b"), ("drop", "a"))),
                      True)
        self.assertIs(same_if_good((("drop", "a"), ("move", "b", "a")), (("move", "b", "a"),)), False)
        self.assertIs(same_if_good((("folder", "a"), ("move", "a", "b")), (("folder", "b"),)), False)
        self.assertIs(same_if_good((("move", "a", "b"), ("move", "c", "d")), (("move", "c", "d"), ("move", "a", "b"))), True)

    def test_folders(self):
        self.assertIs(same_if_good((("drop", "a"), ("folder", "a")), ()), True)
        self.check((("drop", "a"), ("folder", "a")), (), False)
        self.assertIs(same_if_good((("drop", "a"), ("folder", "a")), (("move", "a", "a"),)), True)
        # Two empty folders cannot be told from each other.
        self.assertIs(same_if_good((("drop", "a"), ("drop", "b"), ("folder", "a")), (("move", "a", "b"), ("move", "b", "a"))),
                      True)
        self.assertIs(same_if_good((("drop", "a"), ("drop", "b"), ("folder", "a")), (("move", "b", "a"),)), True)
        self.check((("move", "a", "b"), ("move", "b", "a")), (("move", "a", "a"),), False)
        # A folder may be empty but for a name that no call has.
        self.check((("remove", "a/b"), ("drop", "a")), (("remove", "a/b"),), False)
        self.check((("move", "a", "b"), ("file", "b/c")), (("move", "a", "b"),), False)

    def test_good_first_scripts_only(self):
        self.assertIs(same_if_good((("folder", "a"), ("file", "a")), (("drop", "b"),)), True)
        self.assertIs(same_if_good((("drop", "b"),), (("folder", "a"), ("file", "a"))), False)
        self.assertIs(same_if_good((REMOVE, ("folder", "a")), (REMOVE, ("folder", "a"), ("move", "a", "a"))), True)
        self.assertIs(same_if_good((), ()), True)
        self.assertIs(same_if_good((), (WRITE,)), False)
        self.assertIs(same_if_good((WRITE,), ()), False)
        self.assertIs(same_if_good((("move", "a", "a"),), ()), True)

    def test_commuting(self):
        for one, other, answer in (
                ((), (), True), ((), (("folder", "a"),), True), ((("folder", "a"),), (("folder", "b"),), False),
                ((WRITE,), (WRITE,), True), ((APPEND,), (APPEND,), True), ((WRITE,), (APPEND,), False),
                ((WRITE,), (("write", "a", "y"),), False), ((WRITE, APPEND), (WRITE, APPEND), True),
                ((("folder", "a"),), (("folder", "a"),), True), ((("folder", "a"),), (("file", "a"),), False),
                # Both end with the same result if one of them fails, but not with the same tree.
                ((("move", "a", "a"),), (("move", "b", "b"),), True), ((REMOVE,), (("remove", "b"),), False),
                ((("move", "a", "a"),), (("move", "a", "a"), ("move", "b", "b")), True),
                ((("drop", "a"), ("folder", "a")), (("drop", "a"), ("folder", "a")), True)):
            self.assertIs(unchanged(self, do_commute, one, other), answer, (one, other))
            self.assertIs(do_commute(other, one), answer, (other, one))


class AllTrees(unittest.TestCase):
    """What is said of all trees is what all small trees show."""

    def test_all_small_trees(self):
        dice = random.Random(101)
        alike = good = commuting = 0
        for turn in range(220):
            pool, places = FULL_POOLS[turn % len(FULL_POOLS)]
            one = random_script(dice, pool, 3, "xy")
            other = nearly(dice, one, pool) if dice.random() < 0.7 else random_script(dice, pool, 3, "xy")
            rows = [(plain_run(tree, one), plain_run(tree, other)) for tree in rich_trees(places)]
            is_same = all(first[1:] == second[1:] for first, second in rows)
            tree = parting_tree(one, other)
            self.assertIs(same_effect(one, other), is_same, (one, other))
            self.assertIs(tree is None, is_same, (one, other))
            if tree is not None:
                self.assertTrue(right_tree(tree))
                self.assertNotEqual(effect(tree, one), effect(tree, other), (one, other, tree))
            is_good = all(first[1:] == second[1:] for first, second in rows if first[0] == len(one))
            self.assertIs(same_if_good(one, other), is_good, (one, other))
            one, other = one[:2], other[:2]
            does = all(effect(tree, one + other) == effect(tree, other + one) for tree in rich_trees(places))
            self.assertIs(do_commute(one, other), does, (one, other))
            alike, good, commuting = alike + is_same, good + (is_good and not is_same), commuting + does
        self.assertTrue(alike > 15 and good > 15 and commuting > 15, (alike, good, commuting))

    def test_large_trees(self):
        """No large tree parts what was said to be the same."""
        dice = random.Random(102)
        pool = ("a", "b", "a/c", "b/c", "a/c/b", "c")
        for _ in range(150):
            one = random_script(dice, pool, 3, "xy")
            other = nearly(dice, one, pool)
            answers = same_effect(one, other), same_if_good(one, other), do_commute(one[:2], other[:2])
            tree = parting_tree(one, other)
            self.assertTrue(tree is None or effect(tree, one) != effect(tree, other), (one, other))
            if not any(answers):
                continue
            for _ in range(40):
                tree = random_tree(dice, ("a", "b", "c"), dice.choice((5, 10, 25)), 5, ("q", "z"))
                first, second = plain_run(tree, one), plain_run(tree, other)
                self.assertTrue(not answers[0] or first[1:] == second[1:], (tree, one, other))
                self.assertTrue(not answers[1] or first[0] < len(one) or first[1:] == second[1:], (tree, one, other))
                both = effect(tree, one[:2] + other[:2]), effect(tree, other[:2] + one[:2])
                self.assertTrue(not answers[2] or both[0] == both[1], (tree, one, other))

    def test_longest_scripts(self):
        moves = (("move", "a", "b"), ("move", "c", "d"), ("move", "e", "f"))
        words = (("append", "a", "x"), ("write", "b", "x"), ("copy", "c", "d"))
        for one, other in ((moves, moves), (moves, moves[::-1]), (words, words), (words, words[::-1]),
                           (words, (("append", "e", "x"), ("append", "f", "y"), ("write", "e", "x")))):
            start = time.perf_counter()
            tree = parting_tree(one, other)
            self.assertTrue(tree is None if one == other else effect(tree, one) != effect(tree, other))
            self.assertIs(same_if_good(one, one), True)
            self.assertIsInstance(do_commute(one[:2], other[:2]), bool)
            self.assertLess(time.perf_counter() - start, 5)


class WrongArguments(unittest.TestCase):
    def check_wrong(self, one, other, functions=(same_effect, parting_tree, same_if_good, do_commute)):
        for function in functions:
            with self.assertRaises(InvalidScript, msg=repr((one, other))[:100]):
                function(one, other)

    def test_numbers_of_calls(self):
        rows = (WRITE,) * 4
        self.assertIs(same_effect(rows[:3], rows[:3]), True)
        self.assertIs(do_commute(rows[:2], rows[:2]), True)
        self.check_wrong(rows, ())
        self.check_wrong((), rows)
        self.check_wrong(rows[:3], (), (do_commute,))
        self.check_wrong((), rows[:3], (do_commute,))

    def test_numbers_of_places(self):
        one = (("file", "a/b/c"),)
        self.assertIs(same_effect(one, (("file", "d/e/f"),)), False)
        self.check_wrong(one, (("move", "d/e/f", "g"),))
        self.check_wrong((("move", "d/e/f", "g"),), one)
        self.check_wrong((("move", "a/b/c", "d/e/f"), ("file", "g")), ())
        self.assertIs(do_commute(one, (("move", "d/e", "a"), ("file", "a/f"))), False)

    def test_wrong_scripts(self):
        for value in wrong_values(SCRIPTS, 103, 250):
            for one, other in ((value, ()), ((), value), (value, value), (value, None)):
                if not right_pair(one, other):
                    self.check_wrong(one, other)
                else:
                    self.assertIsInstance(same_effect(one, other), bool)
                    if len(one) > 2 or len(other) > 2:
                        self.check_wrong(one, other, (do_commute,))
