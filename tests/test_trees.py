"""[0.3], [0.5], [0.6], [2.1] to [2.4]: trees."""

import random
import unittest

from helpers import JUNK, TREE, random_tree, right_path, right_tree, unchanged, wrong_values
from scripttrees.errors import InvalidPath, InvalidTree, NoFile, NoFolder
from scripttrees.trees import count_entries, is_part, is_tree, kind_at, names_in, paths_of, words_at

EMPTY = ((), ())
LETTERS = "abcdefghijklmnopqrstuvwxyz"
MANY_NAMES = sorted(one + other for one in LETTERS for other in LETTERS)


def folders_tree(many):
    return tuple(MANY_NAMES[:many]), ()


def files_tree(many):
    return (), tuple(((name,), ()) for name in MANY_NAMES[:many])


class IsTree(unittest.TestCase):
    def test_trees(self):
        for tree in (EMPTY, TREE, (("a",), ()), ((), ((("a",), ()),)), ((), ((("a", "b"), ("x", "x")),)),
                     (("zz", "zz/z"), ((("zz/z/q", "zz/z/r"), ("zzzz",)),)), ((), ((("a", "c"), ()), (("b",), ())))):
            self.assertIs(is_tree(tree), True, tree)

    def test_wrong_trees(self):
        for tree in (
                (("a/b",), ()), ((), ((("a/b",), ()),)), (("a", "a"), ()), (("b", "a"), ()), (("a",), ((("a",), ()),)),
                ((), ((("b",), ()), (("a",), ()))), ((), ((("b", "a"), ()),)), ((), ((("a", "a"), ()),)),
                ((), ((("a", "b"), ()), (("b", "c"), ()))), ((), ((("a",), ()), (("a/b",), ()))), ((), (((), ()),)),
                ((), ((("a",), ("x", "")),)), ((), ((("a",), ("abcde",)),)), ((), ((("a",), ["x"]),)),
                ((), (((["a"]), ()),)), ((), ([("a",), ()],)), (["a"], ()), ((), []), [(), ()], ((), (), ()), ((),), (),
                ((), (("a", ()),)), ((), ((("a",), "x"),)), ("a", ()), ((), ((("a",), (), ()),)), (("",), ()),
                (("a", "a//b"), ()), ((), ((("a",), (1,)),)), (("a", 1), ()), ((), (((1,), ()),)), (("abcd",), ())):
            self.assertIs(is_tree(tree), False, tree)
            self.assertFalse(right_tree(tree))

    def test_bounds(self):
        for make in (folders_tree, files_tree):
            self.assertIs(is_tree(make(100)), True)
            self.assertIs(is_tree(make(101)), False)
        self.assertIs(is_tree(((), ((tuple(MANY_NAMES[:100]), ()),))), True)
        self.assertIs(is_tree(((), ((tuple(MANY_NAMES[:101]), ()),))), False)
        both = (tuple(MANY_NAMES[:50]), ((tuple(MANY_NAMES[50:99]), ()), ((MANY_NAMES[99],), ())))
        self.assertIs(is_tree(both), True)
        more = (both[0], both[1] + (((MANY_NAMES[100],), ()),))
        self.assertIs(is_tree(more), False)
        self.assertIs(is_tree(((), ((("a",), ("x",) * 20), (("b",), ("y",) * 20)))), True)
        self.assertIs(is_tree(((), ((("a",), ("x",) * 21),))), False)
        deep = tuple("/".join(["a"] * many) for many in range(1, 101))
        self.assertIs(is_tree((deep, ())), True)
        self.assertIs(is_tree((deep[1:], ())), False)

    def test_any_values(self):
        dice = random.Random(21)
        trees = [random_tree(dice) for _ in range(60)] + [TREE]
        for value in wrong_values(trees, 22, 4000) + trees:
            self.assertIs(is_tree(value), right_tree(value), repr(value)[:200])


class Looking(unittest.TestCase):
    def test_kind_at(self):
        for path, kind in (("a", "folder"), ("a/b", "folder"), ("a/f", "file"), ("g", "file"), ("c", "none"),
                           ("a/c", "none"), ("g/a", "none"), ("c/d/e", "none"), ("zz", "none"), ("b", "none")):
            self.assertEqual(kind_at(TREE, path), kind)

    def test_words_at(self):
        self.assertEqual(words_at(TREE, "g"), ("x", "y"))
        self.assertEqual(words_at(TREE, "a/f"), ("x", "y"))
        self.assertEqual(words_at(((), ((("a",), ()), (("b",), ("q", "q")))), "b"), ("q", "q"))
        self.assertEqual(words_at(((), ((("a",), ()),)), "a"), ())
        for path in ("a", "a/b", "c", "g/a", "b"):
            with self.assertRaises(NoFile):
                words_at(TREE, path)

    def test_names_in(self):
        self.assertEqual(names_in(TREE, "a"), ["b", "f"])
        self.assertEqual(names_in(TREE, ""), ["a", "g"])
        self.assertEqual(names_in(TREE, "a/b"), [])
        self.assertEqual(names_in(EMPTY, ""), [])
        tree = (("a", "ab", "ab/y", "b"), ((("ab/z", "ab/x", "q")[1::-1], ("x",)), (("ab/y/x", "b/r"), ())))
        self.assertEqual(names_in(tree, "ab"), ["x", "y", "z"])
        self.assertEqual(names_in(tree, "a"), [])
        self.assertEqual(names_in(tree, ""), ["a", "ab", "b"])
        for path in ("g", "c", "a/f", "a/c", "zz"):
            with self.assertRaises(NoFolder):
                names_in(TREE, path)

    def test_paths_of(self):
        self.assertEqual(paths_of(TREE, "g"), ["a/f", "g"])
        self.assertEqual(paths_of(TREE, "a/f"), ["a/f", "g"])
        self.assertEqual(paths_of(((), ((("a", "c"), ()), (("b",), ()))), "b"), ["b"])
        for path in ("a", "a/b", "c", "f"):
            with self.assertRaises(NoFile):
                paths_of(TREE, path)

    def test_count_entries(self):
        for tree, many in ((EMPTY, 0), (TREE, 4), (folders_tree(100), 100), (((), ((("a", "b", "c"), ()),)), 3)):
            self.assertEqual(count_entries(tree), many)

    def test_new_lists(self):
        self.assertEqual(unchanged(self, names_in, TREE, "a"), ["b", "f"])
        self.assertEqual(unchanged(self, paths_of, TREE, "g"), ["a/f", "g"])


class Part(unittest.TestCase):
    def test_parts(self):
        for tree in (EMPTY, TREE, (("a",), ()), (("a", "a/b"), ()), ((), ((("g",), ("x", "y")),)),
                     (("a",), ((("a/f",), ("x", "y")),)), (("a",), ((("a/f", "g"), ("x", "y")),))):
            self.assertIs(is_part(tree, TREE), True, tree)

    def test_no_parts(self):
        for tree in ((("g",), ()), (("b",), ()), ((), ((("g",), ("x",)),)), ((), ((("g",), ()),)),
                     ((), ((("a",), ("x", "y")),)), ((), ((("g", "h"), ("x", "y")),)),
                     ((), ((("h",), ("x", "y")),)), (("a",), ((("a/f",), ("x", "y")), (("g",), ("x", "y")))),
                     (("a",), ((("a/f",), ("x", "y")), (("h",), ())))):
            self.assertTrue(is_tree(tree))
            self.assertIs(is_part(tree, TREE), False, tree)

    def test_two_files_that_became_one(self):
        two = ((), ((("f",), ("x",)), (("g",), ("x",))))
        one = ((), ((("f", "g"), ("x",)),))
        self.assertIs(is_part(one, two), False)
        self.assertIs(is_part(two, one), False)
        self.assertIs(is_part(TREE, EMPTY), False)
        self.assertIs(is_part(((), ((("f",), ("x",)),)), two), True)
        self.assertIs(is_part(((), ((("f", "h"), ("x",)),)), ((), ((("f", "g", "h"), ("x",)),))), True)

    def test_parts_of_random_trees(self):
        dice = random.Random(23)
        for _ in range(300):
            tree = random_tree(dice, most=10)
            gone = dice.choice(tree[0]) if tree[0] and dice.random() < 0.7 else "c"
            folders = tuple(path for path in tree[0] if not (path + "/").startswith(gone + "/"))
            rows = [(tuple(path for path in paths if not (path + "/").startswith(gone + "/")), words)
                    for paths, words in tree[1]]
            part = (folders, tuple(sorted(row for row in rows if row[0])))
            self.assertTrue(is_part(part, tree))
            self.assertEqual(is_part(tree, part), part == tree)


class WrongArguments(unittest.TestCase):
    def test_wrong_trees(self):
        trees = [value for value in wrong_values([TREE], 24, 150) if not right_tree(value)]
        self.assertGreater(len(trees), 100)
        for tree in trees:
            for call in ((kind_at, tree, "a"), (words_at, tree, "g"), (names_in, tree, "a"), (names_in, tree, ""),
                         (paths_of, tree, "g"), (count_entries, tree), (is_part, tree, TREE), (is_part, TREE, tree),
                         (kind_at, tree, ""), (words_at, tree, 1), (names_in, tree, None), (paths_of, tree, "A")):
                with self.assertRaises(InvalidTree):
                    call[0](*call[1:])

    def test_wrong_paths(self):
        for path in JUNK:
            if right_path(path):
                continue
            for function in (kind_at, words_at, paths_of):
                with self.assertRaises(InvalidPath):
                    function(TREE, path)
            if path != "":
                with self.assertRaises(InvalidPath):
                    names_in(TREE, path)
