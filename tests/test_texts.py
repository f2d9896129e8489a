"""[0.3], [5.1], [5.2], [5.3]: texts of scripts and lines of trees."""

import random
import unittest

from helpers import JUNK, TREE, random_call, random_tree, right_tree, spoiled, unchanged, wrong_values
from scripttrees.errors import InvalidScript, InvalidTree, ParseError
from scripttrees.texts import read_script, read_tree, script_text, tree_lines
from worlds import right_script

SCRIPTS = [(), (("folder", "a"),), (("folder", "a"), ("write", "a/f", "x")), (("move", "a", "b/c"), ("drop", "a"))]


class Texts(unittest.TestCase):
    def test_script_text(self):
        for script, text in (((("folder", "a"), ("write", "a/f", "x")), "folder a; write a/f x"), ((), ""),
                             ((("move", "a", "b/c"),), "move a b/c"), ((("append", "a", "word"),) * 2,
                                                                      "append a word; append a word"),
                             ((("copy", "a", "b"), ("link", "b", "c"), ("remove", "a"), ("drop", "d"), ("file", "e")),
                              "copy a b; link b c; remove a; drop d; file e")):
            self.assertEqual(script_text(script), text)
            self.assertEqual(read_script(text), script)
            unchanged(self, script_text, script)

    def test_no_texts(self):
        for text in (" ", ";", "; ", "folder", "folder ", "folder  a", " folder a", "folder a ", "folder a;", "folder a; ",
                     "; folder a", "folder a;folder b", "folder a ;folder b", "folder a ; folder b",
                     "folder a;  folder b", "folder a; ; folder b", "folder a\n", "Folder a", "folder A", "folder z",
                     "folder a b", "write a", "write a x y", "write a abcde", "move a", "folder a/b/c/d", "folder a/",
                     "folder\ta", "mkdir a", "folder a, folder b", "folder \u00e9", "write a z", "a folder",
                     "; ".join(["folder a"] * 7)):
            with self.assertRaises(ParseError, msg=text):
                read_script(text)
        self.assertEqual(len(read_script("; ".join(["folder a"] * 6))), 6)

    def test_all_scripts_come_back(self):
        dice = random.Random(51)
        for _ in range(500):
            script = tuple(random_call(dice, ("a", "b/c", "abc/d/efg"), ("x", "word")) for _ in range(dice.randint(0, 6)))
            self.assertEqual(read_script(script_text(script)), script)

    def test_spoiled_texts(self):
        dice = random.Random(52)
        for _ in range(3000):
            text = script_text(tuple(random_call(dice, ("a", "b/c")) for _ in range(dice.randint(1, 3))))
            at = dice.randrange(len(text))
            text = text[:at] + dice.choice(("", " ", ";", "a", "z", "/", "; ", "\n")) + text[at + dice.randint(0, 1):]
            try:
                script = read_script(text)
            except ParseError:
                continue
            self.assertTrue(right_script(script))
            self.assertEqual(script_text(script), text)

    def test_wrong_arguments(self):
        for value in wrong_values(SCRIPTS, 53, 200):
            if not right_script(value):
                with self.assertRaises(InvalidScript):
                    script_text(value)
        for value in JUNK:
            if value != "":
                with self.assertRaises(ParseError):
                    read_script(value)


class Lines(unittest.TestCase):
    def test_tree_lines(self):
        for tree, lines in (
                (TREE, ["a/", "a/b/", "a/f: x y", "g: x y = a/f"]), (((), ()), []), ((("a",), ()), ["a/"]),
                (((), ((("a",), ()),)), ["a:"]), (((), ((("a", "b"), ()),)), ["a:", "b: = a"]),
                ((("a",), ((("a/f",), ()),)), ["a/", "a/f:"]),
                ((("a", "ab"), ((("a/b", "ab/c", "q"), ("x",)), (("aa",), ("x",)))),
                 ["a/", "a/b: x", "aa: x", "ab/", "ab/c: x = a/b", "q: x = a/b"])):
            self.assertEqual(tree_lines(tree), lines)
            self.assertEqual(read_tree(lines), tree)
            unchanged(self, tree_lines, tree)
            unchanged(self, read_tree, lines)

    def test_no_lines(self):
        for lines in (
                ["a/b/"], ["a/b:"], ["b/", "a/"], ["a/", "a/"], ["a:", "a:"], ["a/", "a:"], ["a"], [""], ["/"], [":"],
                ["a: "], ["a:x"], ["a:  x"], ["a: x "], ["a: x  y"], [" a/"], ["a/ "], ["a/\n"], ["a: abcde"], ["a: X"],
                ["abcd/"], ["a//"], ["a: = a"], ["a: x = a"], ["a: x", "b: x = c"], ["a: x", "b: y = a"],
                ["a: x", "b: x y = a"], ["a: x", "b: = a"], ["a:", "b: x = a"], ["a: x", "b: x =a"], ["a: x", "b: x= a"],
                ["a: x", "b: x  = a"], ["a: x", "b: x = a "], ["a: x", "b: x = a", "c: x = b"], ["a: x = b", "b: x"],
                ["a: x = b", "b: x = b"], ["b: x = a"], ["a/", "b: = a"], ["a: x = b = c"], ["a: =", "b: = a"],
                ["b: x", "a: x = b"], ["a/", "b/", "a/b/"], ["g: x y = a/f", "a/", "a/b/", "a/f: x y"], ["a: x=b"]):
            with self.assertRaises(ParseError, msg=lines):
                read_tree(lines)

    def test_order_of_lines(self):
        lines = tree_lines(TREE)
        dice = random.Random(54)
        for _ in range(50):
            mixed = list(lines)
            dice.shuffle(mixed)
            if mixed != lines:
                with self.assertRaises(ParseError):
                    read_tree(mixed)

    def test_bounds(self):
        names = sorted(one + other for one in "abcdefghijk" for other in "abcdefghijk")
        self.assertEqual(len(read_tree([name + "/" for name in names[:100]])[0]), 100)
        self.assertEqual(len(read_tree([name + ":" for name in names[:100]])[1]), 100)
        self.assertEqual(len(read_tree(["a:" + " x" * 20])[1][0][1]), 20)
        for lines in ([name + "/" for name in names[:101]], [name + ":" for name in names[:101]], ["a:" + " x" * 21],
                      [names[0] + ":"] + [name + ": = " + names[0] for name in names[1:101]]):
            with self.assertRaises(ParseError):
                read_tree(lines)

    def test_all_trees_come_back(self):
        dice = random.Random(55)
        for _ in range(500):
            tree = random_tree(dice, ("a", "ab", "b", "zz"))
            lines = tree_lines(tree)
            self.assertEqual(read_tree(lines), tree)
            count = len(tree[0]) + sum(len(paths) for paths, _ in tree[1])
            self.assertEqual(len(lines), count)

    def test_spoiled_lines(self):
        dice = random.Random(56)
        for _ in range(4000):
            lines = tree_lines(random_tree(dice, most=5)) or ["a/"]
            at = dice.randrange(len(lines))
            line = lines[at]
            place = dice.randrange(len(line))
            more = dice.choice(("", " ", ":", "/", "a", "z", " =", "= ", "\n"))
            lines[at] = line[:place] + more + line[place + dice.randint(0, 1):]
            try:
                tree = read_tree(lines)
            except ParseError:
                continue
            self.assertTrue(right_tree(tree))
            self.assertEqual(tree_lines(tree), lines)

    def test_wrong_arguments(self):
        for value in wrong_values([TREE], 57, 100):
            if not right_tree(value):
                with self.assertRaises(InvalidTree):
                    tree_lines(value)
        self.assertEqual(read_tree([]), ((), ()))
        for value in JUNK + [("a/",), "a/", ["a/", 1], ["a/", None], [["a/"]], ["a/", True], [("a/",)]]:
            if value != []:
                with self.assertRaises(ParseError):
                    read_tree(value)
        dice = random.Random(58)
        for _ in range(200):
            value = spoiled(["a/", "a/b:"], dice)
            if value not in (["a/", "a/b:"], ["a/"], []):
                with self.assertRaises(ParseError):
                    read_tree(value)
