"""[0.2] (b) and (c), [0.3], [12.1], [12.2], [12.3]: undoing, and what scripts lose."""

import random
import time
import unittest

from helpers import random_tree, unchanged, wrong_values
from plain import plain_run
from scripttrees.errors import InvalidScript
from scripttrees.undoing import can_undo, is_undone, keeps_words, reverse
from worlds import FULL_POOLS, nearly, random_script, rich_trees, right_judged, right_pair

SCRIPTS = [(), (("folder", "a"),), (("remove", "a"), ("drop", "b")), (("move", "a", "b"), ("write", "a", "x")),
           (("link", "a", "b"), ("remove", "a"), ("append", "b", "x"))]
MAKING = ("folder", "file", "copy", "link", "drop", "move", "move")


def goes_back(tree, script, other):
    """Return whether on one tree the other script undoes a script, or the script fails."""
    done, _, end = plain_run(tree, script)
    return done < len(script) or plain_run(end, other)[1:] == ("ok", tree)


def keeps(tree, script):
    """Return whether on one tree the words of each file are kept, or the script fails."""
    done, _, end = plain_run(tree, script)
    return done < len(script) or all(any(row[:len(words)] == words for _, row in end[1]) for _, words in tree[1])


class Undoing(unittest.TestCase):
    def check(self, script, other, answer):
        self.assertIs(unchanged(self, is_undone, script, other), answer, (script, other))

    def test_examples(self):
        self.check((("folder", "a"),), (("drop", "a"),), True)
        self.assertIs(can_undo((("move", "a", "b"),)), False)

    def test_named_edges(self):
        self.check((), (), True)
        self.check((), (("folder", "a"),), False)
        self.check((), (("move", "a", "a"),), False)
        self.check((("move", "a", "a"),), (), True)
        self.check((("move", "a", "a"),), (("move", "a", "a"),), True)
        self.check((("folder", "a"),), (), False)
        # What never succeeds has nothing to be undone.
        self.check((("folder", "a"), ("file", "a")), (), True)
        self.check((("copy", "a", "a"),), (("drop", "b"),), True)
        self.check((("file", "a"),), (("remove", "a"),), True)
        self.check((("file", "a"),), (("drop", "a"),), False)
        self.check((("drop", "a"),), (("folder", "a"),), True)
        self.check((("remove", "a"),), (("file", "a"),), False)
        self.check((("link", "a", "b"),), (("remove", "b"),), True)
        # The first path is then the one that goes, and the second one stays.
        self.check((("link", "a", "b"),), (("remove", "a"),), False)
        self.check((("link", "a", "b"),), (("remove", "a"), ("move", "b", "a")), True)
        self.check((("copy", "a", "b"),), (("remove", "b"),), True)
        self.check((("copy", "a", "b"),), (("remove", "a"), ("move", "b", "a")), False)
        self.check((("write", "a", "x"),), (), False)
        self.check((("write", "a", "x"),), (("write", "a", "y"),), False)
        self.check((("append", "a", "x"),), (), False)
        self.check((("move", "a", "b"),), (("move", "b", "a"),), False)
        self.check((("file", "b"), ("remove", "b"), ("move", "a", "b")), (("move", "b", "a"),), True)
        self.check((("folder", "b"), ("move", "a", "b")), (("move", "b", "a"),), True)
        self.check((("folder", "b"), ("drop", "b"), ("move", "a", "b")), (("move", "b", "a"), ("folder", "b")), False)
        self.check((("drop", "b"), ("move", "a", "b")), (("move", "b", "a"), ("folder", "b")), True)
        self.check((("folder", "a"), ("file", "a/b")), (("remove", "a/b"), ("drop", "a")), True)
        self.check((("drop", "a"), ("drop", "b")), (("folder", "b"), ("folder", "a")), True)
        self.check((("file", "a"), ("write", "a", "x")), (("remove", "a"),), True)
        self.check((("drop", "a/b"), ("drop", "a")), (("folder", "a"), ("folder", "a/b")), True)
        # The folders change places, which is seen where they have further entries.
        self.check((("folder", "c"), ("link", "a/f", "b/f"), ("move", "a", "c")),
                   (("move", "b", "a"), ("move", "c", "b"), ("remove", "b/f")), False)
        self.check((("folder", "c"), ("link", "a/f", "b/f"), ("move", "a", "c")), (("move", "c", "a"), ("remove", "b/f")),
                   True)

    def test_reverse(self):
        for call, back in ((("folder", "a/b"), ("drop", "a/b")), (("file", "a"), ("remove", "a")),
                           (("copy", "a", "b"), ("remove", "b")), (("link", "a", "b"), ("remove", "b")),
                           (("drop", "a"), ("folder", "a")), (("move", "a", "b/c"), ("move", "b/c", "a"))):
            self.assertEqual(unchanged(self, reverse, (call,)), (back,))
            self.assertEqual(reverse((("folder", "d"), call)), (back, ("drop", "d")))
        for call in (("write", "a", "x"), ("append", "a", "x"), ("remove", "a")):
            self.assertIsNone(unchanged(self, reverse, (call,)))
            self.assertIs(unchanged(self, can_undo, (call,)), False)
            for rest in ((("folder", "b"),), (("folder", "b"), ("file", "c"))):
                self.assertIsNone(reverse(rest + (call,)))
                self.assertIsNone(reverse((call,) + rest))
        self.assertEqual(reverse(()), ())
        self.assertEqual(reverse((("folder", "a"), ("file", "a/b"), ("move", "a", "c"))),
                         (("move", "c", "a"), ("remove", "a/b"), ("drop", "a")))

    def test_can_undo(self):
        for script, answer in (((), True), ((("folder", "a"),), True), ((("file", "a"),), True), ((("drop", "a"),), True),
                               ((("copy", "a", "b"),), True), ((("link", "a", "b"),), True), ((("move", "a", "a"),), True),
                               ((("folder", "a"), ("file", "a/b"), ("move", "a", "c")), False),
                               ((("drop", "c"), ("folder", "a"), ("move", "a", "c")), True),
                               ((("drop", "a/b"), ("drop", "a")), True),
                               ((("folder", "a"), ("file", "a/b"), ("link", "a/b", "a/c")), True),
                               # Both paths lead to the same file, and no move does anything.
                               ((("link", "a", "b"), ("move", "a", "b")), True),
                               ((("copy", "a", "b"), ("move", "a", "b")), False),
                               ((("folder", "a"), ("file", "a")), True),
                               ((("drop", "a"), ("write", "b", "x")), False)):
            self.assertIs(unchanged(self, can_undo, script), answer, script)

    def test_all_small_trees(self):
        dice = random.Random(121)
        answers = []
        for turn in range(260):
            pool, places = FULL_POOLS[turn % len(FULL_POOLS)]
            script = random_script(dice, pool, 3, "xy")
            if turn % 3:
                script = tuple(call for call in script if call[0] in MAKING)
            back = reverse(script)
            others = [random_script(dice, pool, 3, "xy"), nearly(dice, back or (), pool)] + [back] * (back is not None)
            for other in others:
                answer = all(goes_back(tree, script, other) for tree in rich_trees(places))
                self.assertIs(is_undone(script, other), answer, (script, other))
            if back is not None:
                self.assertIs(can_undo(script), answer, script)
                answers.append(answer)
        self.assertTrue(30 < sum(answers) < len(answers) - 15, (sum(answers), len(answers)))

    def test_large_trees(self):
        dice = random.Random(122)
        pool = ("a", "b", "a/c", "b/c", "a/c/b", "c")
        for _ in range(250):
            script = random_script(dice, pool, 3, "xy")
            back = reverse(script)
            other = back if back is not None else nearly(dice, script[::-1], pool)
            if is_undone(script, other):
                for _ in range(40):
                    tree = random_tree(dice, ("a", "b", "c"), dice.choice((5, 10, 25)), 5, ("q", "z"))
                    self.assertTrue(goes_back(tree, script, other), (tree, script, other))


class Keeping(unittest.TestCase):
    def check(self, script, answer):
        self.assertIs(unchanged(self, keeps_words, script), answer, script)

    def test_named_edges(self):
        self.check((), True)
        self.check((("remove", "a"),), False)
        self.check((("write", "a", "x"),), False)
        self.check((("append", "a", "x"),), True)
        self.check((("append", "a", "x"), ("append", "a", "x")), True)
        self.check((("copy", "a", "b"), ("remove", "a")), True)
        self.check((("copy", "a", "b"), ("write", "a", "x")), True)
        self.check((("copy", "a", "b"), ("write", "b", "x")), True)
        self.check((("copy", "a", "b"), ("append", "b", "x"), ("remove", "a")), True)
        self.check((("copy", "a", "b"), ("remove", "a"), ("remove", "b")), False)
        self.check((("remove", "a"), ("file", "a")), False)
        self.check((("link", "a", "b"), ("remove", "a")), True)
        self.check((("link", "a", "b"), ("write", "a", "x")), False)
        self.check((("link", "a", "b"), ("remove", "a"), ("remove", "b")), False)
        self.check((("move", "a", "b"),), False)
        self.check((("move", "a", "a"),), True)
        self.check((("drop", "b"), ("move", "a", "b")), True)
        self.check((("drop", "b"), ("folder", "b"), ("move", "a", "b")), True)
        self.check((("remove", "b"), ("move", "a", "b")), False)
        self.check((("copy", "b", "c"), ("move", "a", "b")), True)
        self.check((("file", "b"), ("remove", "b"), ("move", "a", "b")), True)
        self.check((("file", "b"), ("move", "a", "b")), True)
        self.check((("file", "a"), ("write", "a", "x"), ("remove", "a")), True)
        self.check((("folder", "a"), ("drop", "a"), ("folder", "a"), ("drop", "a")), True)
        # What never succeeds loses nothing.
        self.check((("folder", "a"), ("drop", "a"), ("remove", "a")), True)
        # The words that are written may be those of the file, but not on all trees.
        self.check((("write", "a", "x"), ("append", "a", "x")), False)
        # The copy keeps the words, but the file may be changed before by its other path.
        self.check((("write", "a", "x"), ("copy", "b", "c")), False)
        self.check((("copy", "a", "c"), ("write", "b", "x")), False)
        self.check((("copy", "a", "c"), ("append", "b", "x"), ("remove", "a")), True)

    def test_all_small_trees(self):
        dice = random.Random(123)
        answers = []
        for turn in range(240):
            pool, places = FULL_POOLS[turn % len(FULL_POOLS)]
            script = random_script(dice, pool, 4, "xy")
            answer = all(keeps(tree, script) for tree in rich_trees(places))
            self.assertIs(keeps_words(script), answer, script)
            answers.append(answer)
        self.assertTrue(40 < sum(answers) < len(answers) - 30, (sum(answers), len(answers)))

    def test_large_trees(self):
        dice = random.Random(124)
        pool = ("a", "b", "a/c", "b/c", "a/c/b", "c")
        for _ in range(200):
            script = random_script(dice, pool, 4, "xy")
            if keeps_words(script):
                for _ in range(40):
                    tree = random_tree(dice, ("a", "b", "c"), dice.choice((5, 10, 25)), 5, ("q", "z"))
                    self.assertTrue(keeps(tree, script), (tree, script))

    def test_longest_scripts(self):
        moves = (("move", "a", "b"), ("move", "c", "d"), ("move", "e", "f"))
        words = (("append", "a", "x"), ("append", "b", "x"), ("copy", "c", "d"))
        start = time.perf_counter()
        self.check(moves + (("move", "f", "a"),), False)
        self.check(words + (("append", "e", "y"),), True)
        self.assertIs(is_undone(moves, (("move", "f", "e"), ("move", "d", "c"), ("move", "b", "a"))), False)
        self.assertIs(is_undone(words, words[::-1]), False)
        self.assertIs(can_undo((("link", "a", "b"), ("copy", "c", "d"), ("drop", "e/f"))), True)
        self.assertLess(time.perf_counter() - start, 5)


class WrongArguments(unittest.TestCase):
    def check_wrong(self, *scripts):
        functions = {1: (reverse, can_undo), 2: (is_undone,)}[len(scripts)]
        for function in functions:
            with self.assertRaises(InvalidScript, msg=repr(scripts)[:100]):
                function(*scripts)

    def test_bounds(self):
        rows = (("append", "a", "x"),) * 5
        self.assertIsNone(reverse(rows[:3]))
        self.assertIs(keeps_words(rows[:4]), True)
        self.check_wrong(rows[:4])
        self.check_wrong(rows[:4], ())
        self.check_wrong((), rows[:4])
        with self.assertRaises(InvalidScript):
            keeps_words(rows)
        six = (("move", "a/b/c", "d/e/f"),)
        self.assertEqual(reverse(six), (("move", "d/e/f", "a/b/c"),))
        self.assertIs(keeps_words(six), False)
        self.assertIs(is_undone(six, (("file", "d/e"),)), False)
        self.check_wrong(six + (("file", "g"),))
        self.check_wrong(six, (("file", "g"),))
        self.check_wrong((("file", "g"),), six)
        with self.assertRaises(InvalidScript):
            keeps_words(six + (("file", "g"),))

    def test_wrong_scripts(self):
        for value in wrong_values(SCRIPTS, 125, 250):
            if right_judged(value, 3):
                self.assertIn(type(reverse(value)), (tuple, type(None)))
                self.assertIsInstance(can_undo(value), bool)
            else:
                self.check_wrong(value)
            if right_judged(value):
                self.assertIsInstance(keeps_words(value), bool)
            else:
                with self.assertRaises(InvalidScript, msg=repr(value)[:100]):
                    keeps_words(value)
            for one, other in ((value, ()), ((), value), (value, value), (None, value)):
                if right_pair(one, other):
                    self.assertIsInstance(is_undone(one, other), bool)
                else:
                    self.check_wrong(one, other)
