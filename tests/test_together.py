"""[0.2] (a), [0.3], [13.1], [13.2], [13.3]: two scripts at once."""

import itertools
import random
import time
import unittest

from helpers import TREE, random_tree, right_tree, unchanged, wrong_values
from plain import Plain, plain_run
from scripttrees.errors import InvalidOrder, InvalidScript, InvalidTree
from scripttrees.together import are_orderly, disorder, fewest_joins, run_both
from worlds import FULL_POOLS, random_script, rich_trees, right_pair

EMPTY = ((), ())
SCRIPTS = [(), (("folder", "a"),), (("remove", "a"), ("drop", "b")), (("move", "a", "b"), ("write", "a", "x")),
           (("link", "a", "b"), ("remove", "a"), ("append", "b", "x"))]
FILE, WRITE, OTHER = ("file", "a"), ("write", "a", "x"), ("write", "a", "y")
STAY = ("move", "a", "a")


def plain_both(tree, one, other, order):
    """Return what run_both should return, found in another way than in the package."""
    plain = Plain(tree)
    lefts, ends = [list(one), list(other)], [[0, "ok"], [0, "ok"]]
    for at in map(int, order):
        call = lefts[at].pop(0)
        if ends[at][1] == "ok":
            ends[at][1] = plain.make(call)
            ends[at][0] += ends[at][1] == "ok"
    return tuple(ends[0]), tuple(ends[1]), plain.tree()


def orders_of(one, other):
    return sorted({"".join(row) for row in itertools.permutations("0" * len(one) + "1" * len(other))})


def plain_orders(one, other):
    return "0" * len(one) + "1" * len(other), "1" * len(other) + "0" * len(one)


def bad_orders(one, other, trees):
    """Return the orders that give on one of the trees what neither script after the other gives."""
    first, second = plain_orders(one, other)
    left, bad = orders_of(one, other), []
    for tree in trees:
        ends = plain_both(tree, one, other, first), plain_both(tree, one, other, second)
        bad.extend(order for order in left if plain_both(tree, one, other, order) not in ends)
        left = [order for order in left if order not in bad]
    return bad


def keeps_join(order, sign, number):
    places = [at for at, other in enumerate(order) if other == sign]
    return places[number] == places[number - 1] + 1


def least_joins(one, other, bad):
    """Return the least number of joins that leave none of the bad orders."""
    joins = [("0", at) for at in range(1, len(one))] + [("1", at) for at in range(1, len(other))]
    for many in range(len(joins) + 1):
        for chosen in itertools.combinations(joins, many):
            if not any(all(keeps_join(order, *join) for join in chosen) for order in bad):
                return many
    return None


class Running(unittest.TestCase):
    def check(self, tree, one, other, order, answer):
        self.assertEqual(unchanged(self, run_both, tree, one, other, order), answer)
        self.assertEqual(plain_both(tree, one, other, order), answer)

    def test_example(self):
        self.check(EMPTY, (("folder", "a"),), (FILE,), "10", ((0, "exists"), (1, "ok"), ((), ((("a",), ()),))))

    def test_empty_scripts(self):
        self.check(TREE, (), (), "", ((0, "ok"), (0, "ok"), TREE))
        self.check(EMPTY, (FILE,), (), "0", ((1, "ok"), (0, "ok"), ((), ((("a",), ()),))))
        self.check(EMPTY, (), (FILE, FILE), "11", ((0, "ok"), (1, "exists"), ((), ((("a",), ()),))))

    def test_script_that_ends_early(self):
        one = (("drop", "a"), ("file", "b"), ("file", "c"))
        other = (("folder", "a"), ("file", "a/b"))
        self.check(EMPTY, one, other, "01010", ((0, "missing"), (2, "ok"), (("a",), ((("a/b",), ()),))))
        self.check(EMPTY, one, other, "10100", ((3, "ok"), (1, "missing"), ((), ((("b",), ()), (("c",), ())))))
        self.check(EMPTY, one, other, "11000", ((0, "not empty"), (2, "ok"), (("a",), ((("a/b",), ()),))))

    def test_both_orders(self):
        one, other = (FILE, WRITE), (OTHER,)
        self.check(EMPTY, one, other, "001", ((2, "ok"), (1, "ok"), ((), ((("a",), ("y",)),))))
        self.check(EMPTY, one, other, "010", ((2, "ok"), (1, "ok"), ((), ((("a",), ("x",)),))))
        self.check(EMPTY, one, other, "100", ((2, "ok"), (0, "missing"), ((), ((("a",), ("x",)),))))

    def test_random_scripts(self):
        dice = random.Random(131)
        for _ in range(800):
            tree = random_tree(dice, extra=("q",))
            one, other = [random_script(dice, ("a", "b", "a/c", "c", "a/b"), 3, "xy") for _ in range(2)]
            first, second = plain_orders(one, other)
            for order in {first, second, dice.choice(orders_of(one, other))}:
                answer = run_both(tree, one, other, order)
                self.assertEqual(answer, plain_both(tree, one, other, order), (tree, one, other, order))
                # What is done before a call that fails stays, and nothing is done behind it.
                self.assertTrue(answer[0][1] != "ok" or answer[0][0] == len(one))
            end = plain_run(tree, one)
            self.assertEqual(run_both(tree, one, (), "0" * len(one)), (end[:2], (0, "ok"), end[2]))


class Orders(unittest.TestCase):
    def check(self, one, other, joins):
        """See that the scripts need so many joins, and that the disorder shows it."""
        self.assertEqual(unchanged(self, fewest_joins, one, other), joins, (one, other))
        self.assertEqual(fewest_joins(other, one), joins, (other, one))
        self.assertIs(unchanged(self, are_orderly, one, other), joins == 0, (one, other))
        found = unchanged(self, disorder, one, other)
        if joins == 0:
            self.assertIsNone(found, (one, other))
        else:
            self.check_shows(one, other, found)

    def check_shows(self, one, other, found):
        self.assertTrue(type(found) is tuple and len(found) == 2, found)
        tree, order = found
        self.assertTrue(right_tree(tree), found)
        self.assertIn(order, orders_of(one, other))
        ends = [plain_both(tree, one, other, row) for row in plain_orders(one, other)]
        self.assertNotIn(plain_both(tree, one, other, order), ends, (one, other, found))

    def test_examples(self):
        self.assertIs(are_orderly((FILE, WRITE), (OTHER,)), False)
        self.assertEqual(fewest_joins((FILE, WRITE), (OTHER,)), 1)

    def test_named_edges(self):
        self.check((), (), 0)
        self.check((FILE, WRITE), (), 0)
        self.check((FILE,), (FILE,), 0)
        self.check((WRITE,), (OTHER,), 0)
        self.check((FILE, WRITE), (OTHER,), 1)
        self.check((STAY, STAY, STAY), (STAY, STAY, STAY), 0)
        self.check((WRITE, WRITE), (WRITE, WRITE), 0)
        self.check((("append", "a", "x"),) * 2, (("append", "a", "x"),) * 2, 0)
        self.check((("append", "a", "x"),) * 2, (("append", "a", "y"),) * 2, 2)
        self.check((("append", "a", "x"),) * 3, (("append", "a", "y"),) * 3, 4)
        self.check((("append", "a", "x"),) * 3, (("append", "a", "y"),), 2)
        # A call that always fails ends its script before anything could be disturbed.
        self.check((("copy", "a", "a"), WRITE), (FILE, OTHER), 0)
        self.check((("folder", "a"), ("file", "a/b")), (("drop", "a"),), 1)
        self.check((("folder", "a"), ("drop", "a")), (("folder", "a"), ("drop", "a")), 2)
        self.check((("move", "a", "b"), ("move", "b", "a")), (("file", "a"),), 1)

    def test_folders_that_are_not_empty(self):
        # What is seen only where a folder has an entry, or where it has no other one than the scripts name.
        self.check((("folder", "a"), ("move", "b", "a")), (("move", "c", "a"), ("file", "a")), 1)
        self.check((("remove", "a/b"), ("drop", "a")), (("drop", "a"),), 1)
        self.check((("remove", "a/b"), ("move", "b", "a")), (("remove", "a/b"), ("move", "b", "a")), 2)
        self.check((("drop", "a"), ("move", "a/b", "b")), (("move", "a/b", "b"), ("drop", "a")), 1)

    def test_files_with_further_paths(self):
        # What was written to the file that loses its path b is seen by its further paths.
        self.check((("move", "a", "b"), ("write", "b", "y")), (("write", "b", "y"), ("move", "a", "b")), 1)
        self.check((("write", "b", "x"),), (("append", "b", "x"), ("move", "a", "b")), 1)

    def test_one_join_is_enough_of_several(self):
        one = (("move", "c", "c"), FILE, WRITE)
        self.check(one, (OTHER,), 1)
        self.check((FILE, WRITE, ("move", "c", "c")), (OTHER,), 1)

    def test_all_small_trees(self):
        dice = random.Random(132)
        counts = {}
        for turn in range(110):
            pool, places = FULL_POOLS[turn % len(FULL_POOLS)]
            one, other = [random_script(dice, pool, 3, "xy") for _ in range(2)]
            trees = rich_trees(places)
            bad = bad_orders(one, other, trees)
            joins = least_joins(one, other, bad)
            self.assertEqual(fewest_joins(one, other), joins, (one, other))
            self.assertIs(are_orderly(one, other), not bad, (one, other))
            self.assertEqual(joins == 0, not bad)
            found = disorder(one, other)
            self.assertIs(found is None, not bad)
            if bad:
                self.check_shows(one, other, found)
            counts[joins] = counts.get(joins, 0) + 1
        self.assertTrue(counts[0] > 20 and counts[1] > 5 and counts[2] > 2, counts)

    def test_large_trees(self):
        """No large tree shows a disorder of scripts that were said to be orderly."""
        dice = random.Random(133)
        pool = ("a", "b", "a/c", "b/c", "a/c/b", "c")
        for _ in range(80):
            one, other = [random_script(dice, pool, 3, "xy") for _ in range(2)]
            found = disorder(one, other)
            if found is not None:
                self.check_shows(one, other, found)
                continue
            trees = [random_tree(dice, ("a", "b", "c"), dice.choice((5, 10, 25)), 5, ("q", "z")) for _ in range(20)]
            self.assertEqual(bad_orders(one, other, trees), [], (one, other))

    def test_longest_scripts(self):
        moves = (("move", "a", "b"), ("move", "c", "d"), ("move", "e", "f"))
        words = (("append", "a", "x"), ("append", "b", "x"), ("append", "c", "y"))
        others = (("append", "d", "x"), ("append", "e", "x"), ("append", "f", "y"))
        for one, other, joins in ((moves, moves, 0), (words, others, 4),
                                  (words, (("drop", "d"), ("drop", "e"), ("drop", "f")), 0),
                                  ((STAY, ("move", "f", "c"), ("folder", "c")),
                                   (("move", "d", "f"), ("append", "e", "x"), ("move", "b", "d")), 0)):
            start = time.perf_counter()
            self.assertEqual(fewest_joins(one, other), joins, (one, other))
            self.assertLess(time.perf_counter() - start, 10)


class WrongArguments(unittest.TestCase):
    def check_wrong(self, one, other):
        for call in ((run_both, TREE, one, other, ""), (run_both, TREE, one, other, None), (are_orderly, one, other),
                     (disorder, one, other), (fewest_joins, one, other)):
            with self.assertRaises(InvalidScript, msg=repr((one, other))[:100]):
                call[0](*call[1:])

    def test_bounds(self):
        rows = (WRITE,) * 4
        self.assertIs(are_orderly(rows[:3], rows[:3]), True)
        self.check_wrong(rows, ())
        self.check_wrong((), rows)
        one = (("file", "a/b/c"),)
        self.assertIsInstance(are_orderly(one, (("file", "d/e/f"),)), bool)
        self.assertEqual(run_both(EMPTY, one, (("file", "d/e/f"),), "10")[:2], ((0, "missing"), (0, "missing")))
        self.check_wrong(one, (("move", "d/e/f", "g"),))
        self.check_wrong((("move", "d/e/f", "g"),), one)

    def test_wrong_scripts(self):
        for value in wrong_values(SCRIPTS, 134, 200):
            for one, other in ((value, ()), ((), value), (value, value), (None, value)):
                if right_pair(one, other):
                    self.assertIsInstance(are_orderly(one, other), bool)
                else:
                    self.check_wrong(one, other)

    def test_wrong_orders(self):
        one, other = (FILE, WRITE), (OTHER,)
        right = ["001", "010", "100"]
        for order in right:
            run_both(TREE, one, other, order)
        for order in ("", "0", "00", "01", "11", "011", "000", "0011", "0010", "012", "01 ", " 01", "abc", None, 1, 10,
                      True, ("0", "0", "1"), ["0", "0", "1"], ("001",), "0011" * 1000):
            with self.assertRaises(InvalidOrder, msg=repr(order)[:80]):
                run_both(TREE, one, other, order)
        for value in wrong_values(right, 135, 100):
            if value not in right:
                with self.assertRaises(InvalidOrder, msg=repr(value)[:80]):
                    run_both(TREE, one, other, value)
        with self.assertRaises(InvalidOrder):
            run_both(TREE, (), (), "0")
        with self.assertRaises(InvalidOrder):
            run_both(TREE, (), (), ())

    def test_wrong_trees_come_first(self):
        for tree in [value for value in wrong_values([TREE], 136, 100) if not right_tree(value)]:
            for arguments in (((FILE,), (FILE,), "01"), (None, None, None), ((), (), "")):
                with self.assertRaises(InvalidTree):
                    run_both(tree, *arguments)
