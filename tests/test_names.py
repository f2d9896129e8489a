"""[0.3], [0.4], [1.1], [1.2], [1.3]: names, words and paths."""

import unittest

from helpers import JUNK, right_name, right_path, right_word, unchanged, wrong_values
from scripttrees.errors import InvalidPath
from scripttrees.names import beginnings, folder_of, is_below, is_name, is_path, is_word, last_name


class Judging(unittest.TestCase):
    def test_names(self):
        for name in ("a", "z", "ab", "abc", "zzz"):
            self.assertIs(is_name(name), True, name)
        for name in ("", "abcd", "A", "aB", "a1", "a/b", "a ", " a", "a\n", "\u00e9", "\u00aa", "\u0430b"):
            self.assertIs(is_name(name), False, name)

    def test_words(self):
        for word in ("a", "z", "ab", "abc", "abcd", "zzzz"):
            self.assertIs(is_word(word), True, word)
        for word in ("", "abcde", "ABCD", "abc1", "ab-d", "a/b", "a b", "abc\n", "\u00e9t\u00e9"):
            self.assertIs(is_word(word), False, word)

    def test_paths(self):
        for path in ("a", "abc", "a/b", "zzz/z", "abc/def/ghi/jkl", "/".join(["a"] * 100)):
            self.assertIs(is_path(path), True, path)
        for path in ("", "/", "a/", "/a", "a//b", "abcd", "a/abcd", "a/B", "a/b ", "a\\b", "a/\u00e9", "a/b\n"):
            self.assertIs(is_path(path), False, path)

    def test_any_values(self):
        for value in wrong_values(["a", "abc", "abcd", "a/b", "a/b/c"], 11, 100):
            self.assertIs(is_name(value), right_name(value), repr(value)[:80])
            self.assertIs(is_word(value), right_word(value), repr(value)[:80])
            self.assertIs(is_path(value), right_path(value), repr(value)[:80])


class Parts(unittest.TestCase):
    def test_folder_of(self):
        for path, folder in (("a", ""), ("abc", ""), ("a/b", "a"), ("a/b/c", "a/b"), ("zz/b/c/d", "zz/b/c")):
            self.assertEqual(folder_of(path), folder)

    def test_last_name(self):
        for path, name in (("a", "a"), ("abc", "abc"), ("a/b", "b"), ("a/b/cde", "cde")):
            self.assertEqual(last_name(path), name)

    def test_beginnings(self):
        self.assertEqual(beginnings("a/b/c"), ["a", "a/b"])
        self.assertEqual(beginnings("a"), [])
        self.assertEqual(beginnings("ab/c"), ["ab"])
        self.assertEqual(beginnings("z/y/x/w"), ["z", "z/y", "z/y/x"])

    def test_beginnings_are_a_new_list(self):
        self.assertEqual(unchanged(self, beginnings, "a/b/c/d"), ["a", "a/b", "a/b/c"])

    def test_is_below(self):
        for path, folder in (("a/b", "a"), ("a/b/c", "a"), ("a/b/c", "a/b"), ("ab/c/d/e", "ab/c/d")):
            self.assertIs(is_below(path, folder), True, (path, folder))
        for path, folder in (("a", "a"), ("a", "a/b"), ("ab", "a"), ("ab/c", "a"), ("a/bc", "a/b"), ("b/a", "a")):
            self.assertIs(is_below(path, folder), False, (path, folder))

    def test_wrong_paths(self):
        for value in JUNK:
            if right_path(value):
                continue
            for function in (folder_of, last_name, beginnings):
                with self.assertRaises(InvalidPath):
                    function(value)
            for arguments in ((value, "a"), ("a", value), (value, value)):
                with self.assertRaises(InvalidPath):
                    is_below(*arguments)
