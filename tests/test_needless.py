"""[0.3], [11.1], [11.2], [11.3]: needless calls."""

import itertools
import random
import time
import unittest

from helpers import unchanged, wrong_values
from plain import plain_run
from scripttrees.errors import InvalidNumber, InvalidScript
from scripttrees.needless import can_swap, needless_calls, shortest_part
from worlds import FULL_POOLS, random_script, rich_trees, right_judged

SCRIPTS = [(), (("folder", "a"),), (("remove", "a"), ("drop", "b")), (("move", "a", "b"), ("write", "a", "x")),
           (("link", "a", "b"), ("remove", "a"), ("append", "b", "x"))]
STAY = ("move", "a", "a")


def are_same(one, other, trees):
    return all(plain_run(tree, one)[1:] == plain_run(tree, other)[1:] for tree in trees)


class Needless(unittest.TestCase):
    def check(self, script, numbers, shortest):
        self.assertEqual(unchanged(self, needless_calls, script), numbers, script)
        self.assertEqual(unchanged(self, shortest_part, script), shortest, script)

    def test_examples(self):
        self.check((("write", "a", "x"), ("write", "a", "y")), [0], (("write", "a", "y"),))
        self.check((STAY, ("file", "b")), [], (STAY, ("file", "b")))
        self.assertIs(can_swap((("write", "a", "x"), ("write", "b", "x")), 0), False)

    def test_named_edges(self):
        self.check((), [], ())
        self.check((STAY,), [], (STAY,))
        self.check((STAY, STAY), [0, 1], (STAY,))
        self.check((STAY, STAY, STAY), [0, 1, 2], (STAY,))
        word = ("write", "a", "x")
        self.check((word, word), [0, 1], (word,))
        self.check((word, word, word), [0, 1, 2], (word,))
        self.check((("append", "a", "x"), word), [0], (word,))
        self.check((word, ("append", "a", "x")), [], (word, ("append", "a", "x")))
        self.check((("append", "a", "x"),) * 2, [], (("append", "a", "x"),) * 2)
        self.check((word, ("append", "a", "y"), word), [0, 1], (word,))
        # Behind a call that always fails nothing is done.
        self.check((("folder", "a"), ("file", "a"), ("file", "b")), [2], (("folder", "a"), ("file", "a")))
        self.check((("copy", "a", "a"), ("file", "b"), ("drop", "c")), [1, 2], (("copy", "a", "a"),))
        self.check((STAY, word), [0], (word,))
        self.check((word, STAY), [1], (word,))
        self.check((("link", "a", "b"), ("move", "a", "b")), [1], (("link", "a", "b"),))

    def test_several_shortest_parts(self):
        # Both calls alone do the same, as the first one in Python's order.
        one, other = ("copy", "a", "a"), ("link", "a", "a")
        self.check((other, one), [0, 1], (one,))
        self.check((one, other), [0, 1], (one,))

    def test_each_alone(self):
        word = ("write", "a", "x")
        self.check((word, STAY, word), [0, 1, 2], (word,))

    def test_all_small_trees(self):
        dice = random.Random(111)
        filled = swapped = 0
        for turn in range(120):
            pool, places = FULL_POOLS[turn % len(FULL_POOLS)]
            if turn % 5 == 0:
                pool = pool[:1]
            trees = rich_trees(places)
            script = random_script(dice, pool, 3, "xy")
            rows = range(len(script))
            numbers = [at for at in rows if are_same(script, script[:at] + script[at + 1:], trees)]
            parts = sorted((part for many in range(4) for part in itertools.combinations(script, many)),
                           key=lambda part: (len(part), part))
            shortest = next(part for part in parts if are_same(script, part, trees))
            self.assertEqual(needless_calls(script), numbers, script)
            self.assertEqual(shortest_part(script), shortest, script)
            for at in rows[:-1]:
                other = script[:at] + (script[at + 1], script[at]) + script[at + 2:]
                answer = are_same(script, other, trees)
                self.assertIs(can_swap(script, at), answer, (script, at))
                swapped += answer and script != other
            filled += len(numbers) > 0
        self.assertTrue(filled > 15 and swapped > 2, (filled, swapped))

    def test_longest_scripts(self):
        for script in ((("move", "a", "b"), ("move", "c", "d"), ("move", "e", "f")),
                       (("append", "a", "x"), ("write", "b", "x"), ("move", "c/d", "e/f"))):
            start = time.perf_counter()
            self.check(script, [], script)
            self.assertIs(can_swap(script, 1), False)
            self.assertLess(time.perf_counter() - start, 5)


class Swapping(unittest.TestCase):
    def test_named_edges(self):
        word = ("write", "a", "x")
        for script, number, answer in (
                ((word, word), 0, True), ((word, ("append", "a", "x")), 0, False), ((STAY, word), 0, True),
                ((STAY, word, ("file", "b")), 0, True), ((STAY, word, ("file", "b")), 1, False),
                ((("folder", "a"), ("file", "a")), 0, False), ((("copy", "a", "a"), ("link", "a", "a")), 0, True),
                ((("copy", "a", "a"), ("file", "b"), ("file", "c")), 1, True),
                ((("folder", "a"), ("file", "a/b"), ("file", "a/c")), 1, True),
                ((("folder", "a"), ("file", "a/b"), ("file", "a/c")), 0, False),
                ((("folder", "a"), ("file", "a/b"), ("copy", "a/b", "a/c")), 1, False)):
            self.assertIs(unchanged(self, can_swap, script, number), answer, (script, number))

    def test_wrong_numbers(self):
        script = (("file", "a"), ("file", "b"), ("file", "c"))
        can_swap(script, 0), can_swap(script, 1)
        for number in (2, 3, -1, -2, True, False, None, "0", (0,), [0], 10 ** 3000):
            with self.assertRaises(InvalidNumber, msg=repr(number)[:80]):
                can_swap(script, number)
        for number in (0, -1, 1, True):
            for short in ((), script[:1]):
                with self.assertRaises(InvalidNumber):
                    can_swap(short, number)
        for value in wrong_values([0, 1], 112, 100):
            if type(value) is not int or value not in (0, 1):
                with self.assertRaises(InvalidNumber, msg=repr(value)[:80]):
                    can_swap(script, value)


class WrongArguments(unittest.TestCase):
    def check_wrong(self, script):
        for call in ((needless_calls, script), (shortest_part, script), (can_swap, script, 0), (can_swap, script, None)):
            with self.assertRaises(InvalidScript, msg=repr(script)[:100]):
                call[0](*call[1:])

    def test_bounds(self):
        self.assertEqual(needless_calls((STAY,) * 3), [0, 1, 2])
        self.check_wrong((STAY,) * 4)
        self.check_wrong((STAY,) * 5)
        six = (("move", "a/b/c", "d/e/f"), ("file", "a"))
        self.assertEqual(needless_calls(six), [])
        self.check_wrong(six + (("file", "g"),))

    def test_wrong_scripts(self):
        for value in wrong_values(SCRIPTS, 113, 300):
            if right_judged(value, 3):
                self.assertIsInstance(needless_calls(value), list)
            else:
                self.check_wrong(value)
