"""[0.2] (b) and (c), [0.3], [7.1], [7.2]: trees that stand for all trees."""

import random
import unittest

from helpers import TREE, random_tree, right_tree, unchanged, wrong_values
from plain import plain_run
from scripttrees.errors import InvalidGroup, InvalidTree
from scripttrees.scripts import run
from scripttrees.standing import standing_trees, stands_for
from scripttrees.trees import is_tree
from worlds import all_trees, random_group, right_group

FOLDER, FILE = ("folder", "a"), ("file", "b")
# Groups in which the outcome depends on more than the kinds of what stands at the places.
GROUPS = [
    [(("remove", "a"),)],
    [()],
    [(), (), ()],
    [(("drop", "a"),)],
    [(("move", "a", "b"),)],
    # What lies below a folder comes to the places with it.
    [(("move", "a", "b"), ("file", "b/c"))],
    [(("move", "a", "b"), ("move", "b/c", "d"), ("drop", "b"))],
    [(("move", "a", "b"), ("move", "b", "c"), ("move", "c/d", "c/e"))],
    [(("move", "a", "b"), ("move", "b/c", "b/d"), ("remove", "b/c"))],
    # An entry that was taken away may have been the only one, or not.
    [(("remove", "a/b"), ("drop", "a"))],
    [(("drop", "a"),), (("remove", "a/b"), ("drop", "a")), (("move", "a/b", "c"), ("drop", "a"))],
    [(("drop", "a"),), (("remove", "a/b"), ("remove", "a/c"), ("drop", "a"))],
    [(("drop", "a"),), (("remove", "a/b"), ("drop", "a")), (("remove", "a/c"), ("drop", "a"))],
    # Whether two paths lead to the same file is seen by what is left behind.
    [(("move", "a", "b"), ("file", "a"))],
    [(("move", "a", "b"), ("remove", "a")), (("move", "b", "c"), ("remove", "b")), (("move", "c", "a"), ("remove", "c"))],
    [(("link", "a", "b"), ("move", "b", "c"), ("file", "b"))],
    [(("copy", "a", "b"), ("move", "b", "a"), ("file", "b"))],
    [(("move", "a", "b"), ("move", "b/c", "d"), ("file", "b/c"))],
    [(("move", "a", "b"), ("remove", "a")), (("move", "b", "a"), ("remove", "b")), (("move", "a", "b"), ("remove", "a"))],
    [(("move", "a", "b"), ("remove", "a")), (("move", "c", "b"), ("remove", "c")), (("move", "c", "a"), ("remove", "c"))],
    [(("file", "a"), ("link", "a", "b"), ("move", "a", "b"), ("remove", "a"))],
    [(("remove", "a"), ("file", "a"), ("move", "a", "b"), ("remove", "a"))],
    # Folders that scripts made are empty, and those that they moved are what they were.
    [(("folder", "a"), ("move", "b", "a"), ("drop", "a"))],
    [(("move", "a", "b/c"), ("drop", "b/c"), ("drop", "b"))],
    [(("move", "a/b", "c"), ("move", "c", "a"),), (("drop", "a/b"), ("drop", "a"))],
]


def outcomes(tree, group):
    return tuple(plain_run(tree, script)[:2] for script in group)


class Stands(unittest.TestCase):
    def check(self, group, trees):
        """See that the standing trees of a group stand for some trees."""
        standing = standing_trees(group)
        first = {}
        for tree in standing:
            self.assertTrue(is_tree(tree), (group, tree))
            # No tree is in the list that stands only for what an earlier one stands for.
            self.assertNotIn(outcomes(tree, group), first, (group, tree))
            first[outcomes(tree, group)] = tree
        for number, tree in enumerate(trees):
            self.assertIn(outcomes(tree, group), first, (group, tree))
            if number % 7 == 0:
                self.assertEqual(stands_for(group, tree), first[outcomes(tree, group)], (group, tree))
        return first

    def test_small_groups(self):
        self.assertEqual(len(self.check([(("remove", "a"),)], [((), ()), (("a",), ()), ((), ((("a",), ()),))])), 3)
        self.assertEqual(len(self.check([()], [TREE])), 1)
        self.assertEqual(set(self.check([(("drop", "a"),)], [TREE])),
                         {((1, "ok"),), ((0, "missing"),), ((0, "not folder"),), ((0, "not empty"),)})

    def test_all_small_trees(self):
        places = ("a", "a/b", "a/c", "b", "c")
        trees = all_trees(places) + all_trees(("a", "a/b", "b", "b/c", "d"))
        for group in GROUPS:
            found = {outcomes(tree, group) for tree in trees}
            self.assertLessEqual(found, set(self.check(group, trees)), group)

    def test_no_tree_too_many(self):
        """Each standing tree of these groups has outcomes that some small tree has."""
        trees = all_trees(("a", "a/b", "a/c", "b", "c"))
        for group in GROUPS[:5] + GROUPS[9:14]:
            self.assertLessEqual(set(self.check(group, [])), {outcomes(tree, group) for tree in trees}, group)

    def test_large_trees(self):
        dice = random.Random(71)
        for group in GROUPS:
            trees = [random_tree(dice, ("a", "b", "c", "d", "e"), most, 5, ("z", "q"))
                     for most in (3, 6, 10, 20, 60) for _ in range(40)]
            self.check(group, trees)

    def test_random_groups(self):
        dice = random.Random(72)
        for _ in range(700):
            group, pool = random_group(dice)
            names = sorted({name for path in pool for name in path.split("/")})
            trees = [random_tree(dice, names, dice.choice((4, 8, 12, 25)), 5, dice.choice(((), ("z",), ("q", "zz"))))
                     for _ in range(30)]
            self.check(group, trees)

    def test_files_with_paths_elsewhere(self):
        group = [(("move", "a", "b"), ("file", "a"))]
        same = ((), ((("a", "b", "q"), ("x",)),))
        apart = ((), ((("a", "q"), ("x",)), (("b", "r"), ("x",))))
        self.assertEqual(outcomes(stands_for(group, same), group), ((1, "exists"),))
        self.assertEqual(outcomes(stands_for(group, apart), group), ((2, "ok"),))

    def test_only_entry_has_another_name(self):
        group = [(("drop", "a"),), (("remove", "a/b"), ("drop", "a"))]
        for tree, found in (((("a",), ((("a/q",), ()),)), ((0, "not empty"), (0, "missing"))),
                            ((("a",), ((("a/b",), ()),)), ((0, "not empty"), (2, "ok"))),
                            ((("a",), ((("a/b",), ()), (("a/z",), ()))), ((0, "not empty"), (1, "not empty"))),
                            ((("a",), ()), ((1, "ok"), (0, "missing"))),
                            ((("a", "a/b"), ()), ((0, "not empty"), (0, "is folder")))):
            self.assertEqual(outcomes(tree, group), found)
            self.assertEqual(outcomes(stands_for(group, tree), group), found)

    def test_entries_that_come_with_a_folder(self):
        group = [(("move", "a", "b"), ("file", "b/c"))]
        for tree, found in (((("a", "a/c"), ()), ((1, "exists"),)), ((("a",), ((("a/c",), ()),)), ((1, "exists"),)),
                            ((("a",), ((("a/q",), ()),)), ((2, "ok"),)), ((("a", "b"), ()), ((2, "ok"),))):
            self.assertEqual(outcomes(stands_for(group, tree), group), found)

    def test_largest_trees(self):
        names = sorted(one + other for one in "abcdefghij" for other in "abcdefghij")
        tree = (tuple(names[:40]), tuple(((name,), ("x",) * 20) for name in names[40:]))
        group = [(("drop", "aa"), ("move", "ja", "jb"), ("file", "ja")), (("folder", "ab"),), (("link", "ja", "jk"),)]
        self.assertEqual(outcomes(stands_for(group, tree), group), ((3, "ok"), (0, "exists"), (1, "ok")))
        chain = tuple("/".join(["a"] * many) for many in range(1, 101))
        group = [(("move", "a/a/a", "b"), ("drop", "a/a"), ("drop", "b/c"))]
        self.assertEqual(outcomes(stands_for(group, (chain, ())), group), ((2, "missing"),))

    def test_arguments_and_answers(self):
        group = [(("move", "a", "b"), ("drop", "b")), (("drop", "a"),)]
        self.assertGreater(len(unchanged(self, standing_trees, group)), 4)
        tree = unchanged(self, stands_for, group, TREE)
        self.assertEqual(tree, next(other for other in standing_trees(group)
                                    if all(run(other, script)[:2] == run(TREE, script)[:2] for script in group)))


class WrongArguments(unittest.TestCase):
    def check_wrong(self, group):
        for call in ((standing_trees, group), (stands_for, group, TREE), (stands_for, group, None)):
            with self.assertRaises(InvalidGroup, msg=repr(group)[:200]):
                call[0](*call[1:])

    def test_sizes_of_groups(self):
        self.check_wrong([])
        for many in (1, 2, 3):
            self.assertGreater(len(standing_trees([(FOLDER,)] * many)), 1)
        self.check_wrong([(FOLDER,)] * 4)
        self.check_wrong(((FOLDER,),))
        self.check_wrong((FOLDER,))
        self.check_wrong([FOLDER])
        self.check_wrong([[FOLDER]])
        self.check_wrong(None)

    def test_sizes_of_scripts(self):
        self.assertEqual(len(standing_trees([(FOLDER,) * 4])), 2)
        self.check_wrong([(FOLDER,) * 5])
        self.check_wrong([(FOLDER,) * 6])
        self.check_wrong([(FOLDER,), (FILE,) * 5])
        self.check_wrong([(FOLDER,), (("folder", "z"),)])

    def test_places(self):
        six = [(("file", "a/b/c"),), (("file", "d/e/f"),)]
        self.assertGreater(len(standing_trees(six)), 3)
        self.check_wrong(six + [(("file", "g"),)])
        self.assertGreater(len(standing_trees(six + [(("file", "d/e"),)])), 3)
        self.check_wrong([(("move", "a/b", "c/d"), ("move", "e/f", "a"), ("file", "g"))])
        self.assertGreater(len(standing_trees([(("move", "a/b", "c/d"), ("move", "e/f", "a"))])), 3)

    def test_any_values(self):
        groups = [group for group in GROUPS if group != [()]]
        for value in wrong_values(groups, 73, 400):
            if not right_group(value):
                self.check_wrong(value)
            else:
                self.assertIsInstance(standing_trees(value), list)

    def test_wrong_trees(self):
        for tree in [value for value in wrong_values([TREE], 74, 100) if not right_tree(value)]:
            with self.assertRaises(InvalidTree):
                stands_for([()], tree)
            with self.assertRaises(InvalidTree):
                stands_for([(FOLDER,)], tree)
