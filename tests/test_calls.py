"""[0.2] (a), [0.3], [3.1], [3.2], [3.3]: calls."""

import random
import unittest

from helpers import (RESULTS, SHAPES, TREE, random_call, random_tree, right_call, right_tree, unchanged,
                     wrong_values)
from plain import plain_call
from scripttrees.calls import is_call, paths_in, result_of, tree_after
from scripttrees.errors import InvalidCall, InvalidTree
from scripttrees.trees import is_tree, kind_at, words_at

EMPTY = ((), ())
CALLS = [("folder", "a"), ("file", "a/b"), ("write", "a/b/c", "x"), ("append", "a", "word"), ("copy", "a", "b"),
         ("link", "a", "b/c"), ("remove", "a"), ("drop", "abc"), ("move", "a", "b/c")]

WAYS = ("ok", "missing", "not folder")
KIND_RESULTS = {
    "folder": WAYS + ("exists",), "file": WAYS + ("exists",), "write": WAYS + ("is folder",),
    "append": WAYS + ("is folder",), "copy": WAYS + ("is folder", "exists"), "link": WAYS + ("is folder", "exists"),
    "remove": WAYS + ("is folder",), "drop": WAYS + ("not empty",),
    "move": WAYS + ("is folder", "not empty", "inside"),
}


class Judging(unittest.TestCase):
    def test_calls(self):
        for call in CALLS + [("move", "a", "a"), ("folder", "aaa/bbb/ccc"), ("write", "a", "yzzz"), ("file", "az")]:
            self.assertIs(is_call(call), True, call)

    def test_bounds(self):
        self.assertIs(is_call(("folder", "a/b/c")), True)
        self.assertIs(is_call(("folder", "a/b/c/d")), False)
        for call in (("folder", "z"), ("folder", "za"), ("folder", "a/zb"), ("folder", "zz/a/b"), ("write", "a", "z"),
                     ("append", "a", "zoo"), ("write", "z", "x"), ("copy", "a", "z"), ("link", "a/z", "b"),
                     ("move", "a/b/c/d", "a"), ("move", "a", "a/b/c/d"), ("write", "a", "abcde"), ("write", "a", ""),
                     ("folder", ""), ("folder", "abcd"), ("folder", "a/"), ("write", "a", "a/b"), ("copy", "a", "")):
            self.assertIs(is_call(call), False, call)

    def test_shapes(self):
        for call in CALLS:
            for wrong in (list(call), call[:-1], call + ("a",), (call,), call[:1], (call[0].upper(),) + call[1:],
                          (call[0] + " ",) + call[1:], (None,) + call[1:], ([call[0]],) + call[1:]):
                self.assertIs(is_call(wrong), False, wrong)
        for wrong in (("mkdir", "a"), ("rename", "a", "b"), ("write", "a"), ("folder", "a", "x"), ("", "a"), "folder"):
            self.assertIs(is_call(wrong), False, wrong)

    def test_any_values(self):
        for value in wrong_values(CALLS, 31, 2000) + CALLS:
            self.assertIs(is_call(value), right_call(value), repr(value)[:80])

    def test_paths_in(self):
        self.assertEqual(paths_in(("move", "a", "b/c")), ["a", "b/c"])
        self.assertEqual(paths_in(("write", "a", "b")), ["a"])
        self.assertEqual(paths_in(("append", "b/a", "b")), ["b/a"])
        self.assertEqual(paths_in(("copy", "b", "a")), ["b", "a"])
        self.assertEqual(paths_in(("link", "a", "a")), ["a", "a"])
        for kind in ("folder", "file", "remove", "drop"):
            self.assertEqual(paths_in((kind, "a/b/c")), ["a/b/c"])
        self.assertEqual(unchanged(self, paths_in, ("move", "a", "b/c")), ["a", "b/c"])


class Results(unittest.TestCase):
    def check(self, tree, call, result, after=None):
        self.assertTrue(is_tree(tree))
        self.assertEqual(unchanged(self, result_of, tree, call), result, (tree, call))
        self.assertEqual(unchanged(self, tree_after, tree, call), tree if after is None else after, (tree, call))

    def test_ways(self):
        for kind, shape in SHAPES.items():
            rest = tuple({"p": "g", "w": "x"}[sign] for sign in shape[1:])
            for path, result in (("c/d", "missing"), ("a/c/d", "missing"), ("g/d", "not folder"),
                                 ("a/f/d", "not folder"), ("c/d/e", "missing"), ("g/d/e", "not folder")):
                self.check(TREE, (kind, path) + rest, result)
                if shape == "pp":
                    # Both ways come before all that is asked of the first path's end.
                    for first in ("g", "a", "c"):
                        self.check(TREE, (kind, first, path), result)
        self.check(TREE, ("copy", "c/d", "g/d"), "missing")
        self.check(TREE, ("copy", "g/d", "c/d"), "not folder")

    def test_folder_and_file(self):
        self.check(EMPTY, ("folder", "a"), "ok", (("a",), ()))
        self.check(EMPTY, ("file", "a"), "ok", ((), ((("a",), ()),)))
        self.check(TREE, ("folder", "a/b/c"), "ok", (("a", "a/b", "a/b/c"), TREE[1]))
        self.check(TREE, ("file", "a/b/c"), "ok", (TREE[0], (((("a/b/c",), ()),) + TREE[1])))
        for kind in ("folder", "file"):
            for path in ("a", "a/b", "a/f", "g"):
                self.check(TREE, (kind, path), "exists")

    def test_write_and_append(self):
        self.check(TREE, ("write", "g", "q"), "ok", (TREE[0], ((("a/f", "g"), ("q",)),)))
        self.check(TREE, ("append", "a/f", "q"), "ok", (TREE[0], ((("a/f", "g"), ("x", "y", "q")),)))
        self.check(((), ((("a",), ()),)), ("append", "a", "x"), "ok", ((), ((("a",), ("x",)),)))
        self.check(((), ((("a",), ()),)), ("write", "a", "x"), "ok", ((), ((("a",), ("x",)),)))
        for kind in ("write", "append"):
            self.check(TREE, (kind, "c", "q"), "missing")
            self.check(TREE, (kind, "a/c", "q"), "missing")
            self.check(TREE, (kind, "a", "q"), "is folder")

    def test_append_beyond_the_bound(self):
        full = ((), ((("a",), ("x",) * 20),))
        after = tree_after(full, ("append", "a", "y"))
        self.assertEqual(after, ((), ((("a",), ("x",) * 20 + ("y",)),)))
        self.assertIs(is_tree(after), False)

    def test_copy(self):
        self.check(TREE, ("copy", "g", "a/c"), "ok", (TREE[0], ((("a/c",), ("x", "y")),) + TREE[1]))
        self.check(((), ((("a",), ()),)), ("copy", "a", "b"), "ok", ((), ((("a",), ()), (("b",), ()))))
        copied = tree_after(TREE, ("copy", "g", "h"))
        self.assertEqual(words_at(tree_after(copied, ("write", "g", "q")), "h"), ("x", "y"))

    def test_link(self):
        self.check(TREE, ("link", "g", "a/c"), "ok", (TREE[0], ((("a/c", "a/f", "g"), ("x", "y")),)))
        self.check(TREE, ("link", "a/f", "h"), "ok", (TREE[0], ((("a/f", "g", "h"), ("x", "y")),)))
        linked = tree_after(TREE, ("link", "g", "h"))
        self.assertEqual(words_at(tree_after(linked, ("write", "g", "q")), "h"), ("q",))

    def test_copy_and_link_fail(self):
        for kind in ("copy", "link"):
            for first, result in (("c", "missing"), ("a", "is folder"), ("a/b", "is folder")):
                for second in ("g", "c", "a", "h", "a/f"):
                    self.check(TREE, (kind, first, second), result)
            for second in ("g", "a", "a/b", "a/f"):
                self.check(TREE, (kind, "g", second), "exists")

    def test_remove(self):
        self.check(TREE, ("remove", "g"), "ok", (TREE[0], ((("a/f",), ("x", "y")),)))
        self.check(TREE, ("remove", "a/f"), "ok", (TREE[0], ((("g",), ("x", "y")),)))
        self.check(((), ((("a",), ("x",)),)), ("remove", "a"), "ok", EMPTY)
        self.check(TREE, ("remove", "c"), "missing")
        self.check(TREE, ("remove", "a/b"), "is folder")

    def test_drop(self):
        self.check(TREE, ("drop", "a/b"), "ok", (("a",), TREE[1]))
        self.check(TREE, ("drop", "a"), "not empty")
        self.check(TREE, ("drop", "g"), "not folder")
        self.check(TREE, ("drop", "c"), "missing")
        self.check((("a",), ((("a/z",), ()),)), ("drop", "a"), "not empty")
        self.check((("a", "a/z"), ()), ("drop", "a"), "not empty")
        self.check((("a", "ab"), ((("ab/c",), ()),)), ("drop", "a"), "ok", (("ab",), ((("ab/c",), ()),)))

    def test_move_nothing(self):
        for second in ("a", "g", "c", "h", "c", "a/b"):
            self.check(TREE, ("move", "c", second), "missing")
        self.check(TREE, ("move", "c", "c/d"), "missing")

    def test_move_folder(self):
        self.check(TREE, ("move", "a", "c"), "ok", (("c", "c/b"), ((("c/f", "g"), ("x", "y")),)))
        self.check(TREE, ("move", "a/b", "b"), "ok", (("a", "b"), TREE[1]))
        self.check(TREE, ("move", "a", "a"), "ok", TREE)
        self.check(TREE, ("move", "a", "a/c"), "inside")
        self.check(TREE, ("move", "a", "a/b"), "inside")
        self.check(TREE, ("move", "a", "a/b/c"), "inside")
        self.check(TREE, ("move", "a", "a/f"), "inside")
        self.check(TREE, ("move", "a", "a/c/d"), "missing")
        self.check(TREE, ("move", "a", "a/f/d"), "not folder")
        self.check(TREE, ("move", "a", "g"), "not folder")
        self.check(TREE, ("move", "a/b", "a/f"), "not folder")
        self.check(TREE, ("move", "a/b", "a"), "not empty")

    def test_move_folder_onto_folders(self):
        tree = (("a", "a/b", "c", "d"), ((("a/b/q", "d/q", "r"), ("x",)),))
        self.check(tree, ("move", "a", "c"), "ok", (("c", "c/b", "d"), ((("c/b/q", "d/q", "r"), ("x",)),)))
        self.check(tree, ("move", "a", "d"), "not empty")
        self.check(tree, ("move", "c", "a"), "not empty")
        self.check(tree, ("move", "c", "a/b"), "not empty")
        self.check(tree, ("move", "d", "a/c"), "ok",
                   (("a", "a/b", "a/c", "c"), ((("a/b/q", "a/c/q", "r"), ("x",)),)))

    def test_move_folder_whose_name_begins_another(self):
        tree = (("a", "ab"), ((("a/c", "ab/c"), ()),))
        self.check(tree, ("move", "a", "abc"), "ok", (("ab", "abc"), ((("ab/c", "abc/c"), ()),)))
        self.check((("a", "ab"), ()), ("move", "a", "ab/c"), "ok", (("ab", "ab/c"), ()))

    def test_move_file(self):
        self.check(TREE, ("move", "g", "h"), "ok", (TREE[0], ((("a/f", "h"), ("x", "y")),)))
        self.check(TREE, ("move", "g", "a/b/q"), "ok", (TREE[0], ((("a/b/q", "a/f"), ("x", "y")),)))
        self.check(TREE, ("move", "g", "a"), "is folder")
        self.check(TREE, ("move", "g", "a/b"), "is folder")
        self.check(TREE, ("move", "g", "g"), "ok", TREE)
        self.check(TREE, ("move", "g", "a/f"), "ok", TREE)
        self.check(TREE, ("move", "a/f", "g"), "ok", TREE)
        self.check(TREE, ("move", "g", "g/h"), "not folder")

    def test_move_file_onto_another(self):
        tree = ((), ((("a", "b"), ("x",)), (("c", "d"), ("y",)), (("e",), ("q",))))
        self.check(tree, ("move", "a", "c"), "ok", ((), ((("b", "c"), ("x",)), (("d",), ("y",)), (("e",), ("q",)))))
        self.check(tree, ("move", "a", "e"), "ok", ((), ((("b", "e"), ("x",)), (("c", "d"), ("y",)))))
        self.check(tree, ("move", "e", "a"), "ok", ((), ((("a",), ("q",)), (("b",), ("x",)), (("c", "d"), ("y",)))))

    def test_kinds_of_results(self):
        found = set()
        dice = random.Random(32)
        paths = ("a", "b", "c", "a/a", "a/b", "b/a", "a/b/c", "a/b/a")
        for _ in range(6000):
            tree = random_tree(dice, extra=("z", "q"))
            call = random_call(dice, paths)
            result, after = plain_call(tree, call)
            self.assertEqual(result_of(tree, call), result, (tree, call))
            self.assertEqual(tree_after(tree, call), after, (tree, call))
            if result != "ok":
                self.assertEqual(after, tree)
            found.add((call[0], result))
        self.assertEqual({result for _, result in found}, set(RESULTS))
        for kind in SHAPES:
            self.assertEqual({result for other, result in found if other == kind}, set(KIND_RESULTS[kind]), kind)

    def test_largest_trees(self):
        names = sorted(one + other for one in "abcdefghij" for other in "abcdefghij")
        tree = (tuple(names), ())
        after = tree_after(tree, ("folder", "q"))
        self.assertEqual(len(after[0]), 101)
        self.assertEqual(kind_at(tree_after(tree, ("drop", "aa")), "aa"), "none")
        chain = tuple("/".join(["a"] * many) for many in range(1, 101))
        self.assertEqual(tree_after((chain, ()), ("move", "a", "b"))[0], tuple("b" + path[1:] for path in chain))


class WrongArguments(unittest.TestCase):
    def test_wrong_calls(self):
        calls = [value for value in wrong_values(CALLS, 33, 200) if not right_call(value)]
        for call in calls:
            for arguments in ((paths_in, call), (result_of, TREE, call), (tree_after, TREE, call)):
                with self.assertRaises(InvalidCall):
                    arguments[0](*arguments[1:])

    def test_wrong_trees_come_first(self):
        trees = [value for value in wrong_values([TREE], 34, 100) if not right_tree(value)]
        for tree in trees:
            for call in (("folder", "a"), ("folder", ""), None, []):
                for function in (result_of, tree_after):
                    with self.assertRaises(InvalidTree):
                        function(tree, call)
