"""[0.3], [14.1], [14.2], [14.3], [14.4]: tables."""

import random
import unittest

from helpers import TREE, random_tree, right_path, right_tree, unchanged, wrong_values
from plaintables import USERS, plain_shown, right_table, right_user, some_tables
from scripttrees.errors import InvalidPath, InvalidTable, InvalidTree, InvalidUser, TooLarge
from scripttrees.tables import free_number, is_table, number_at, shown, table_of

BASE = table_of((("b",), ((("a",), ("x", "y")),)), "c")
NAMES = [one + other for one in "abcd" for other in "abcdefgh"]


def root(*entries, owner="a", rights="rw--"):
    return 0, "folder", owner, rights, tuple(entries)


def file(number, *words, owner="a", rights="rw--"):
    return number, "file", owner, rights, tuple(words)


def folder(number, *entries, owner="a", rights="rw--"):
    return number, "folder", owner, rights, tuple(entries)


TABLES = [(root(),), BASE, (root(("f", 1)), file(1, "x")), (root(("a", 3), ("b", 7)), folder(3, ("f", 7)), file(7)),
          (root(("a", 15)), folder(2, ("c", 9)), file(9, "x", "zz", "word"), folder(15, ("b", 2)))]


class IsTable(unittest.TestCase):
    def yes(self, *table):
        self.assertIs(unchanged(self, is_table, tuple(table)), True, table)

    def no(self, *table):
        self.assertIs(unchanged(self, is_table, tuple(table)), False, table)

    def test_example(self):
        self.no((0, "folder", "a", "rw--", (("f", 1),)))

    def test_tables(self):
        for table in TABLES:
            self.yes(*table)
        self.no()
        for value in (None, "", 0, [root()], root(), (list(root()),), ((root(),),), (root(), None)):
            self.assertIs(is_table(value), False, value)

    def test_nodes(self):
        entry = root(("f", 1))
        for number in (0, 16, -1, True, "1", None, 10 ** 30):
            self.no(root(("f", number)), file(number))
            self.no(entry, file(number))
        self.yes(root(("f", 15)), file(15))
        for kind in ("files", "", None, "link", ["file"], 1):
            self.no(entry, (1, kind, "a", "rw--", ()))
        for owner in ("a", "b", "c", "d"):
            self.yes(entry, file(1, owner=owner))
        for owner in ("e", "", "ab", "abcd", None, 1, ["a"], ("a",)):
            self.no(entry, file(1, owner=owner))
        for rights in ("rwrw", "----", "r---", "-w--", "--r-", "---w", "rwr-"):
            self.yes(entry, file(1, rights=rights))
        for rights in ("", "rw", "rwr", "rwrwr", "wrwr", "rrrr", "rwrx", "RW--", None, 15, ("r", "w", "r", "w"), ["rwrw"]):
            self.no(entry, file(1, rights=rights))
        self.no(entry, (1, "file", "a", "rw--"))
        self.no(entry, (1, "file", "a", "rw--", (), ()))
        self.no(entry, [1, "file", "a", "rw--", ()])

    def test_numbers_in_place_of_booleans(self):
        self.no(root(("f", True)), file(1))
        self.no((False, "folder", "a", "rw--", ()))
        self.no(root(("f", 1)), file(True))

    def test_bodies(self):
        entry = root(("f", 1))
        self.yes(entry, file(1, *["x"] * 16))
        self.no(entry, file(1, *["x"] * 17))
        self.yes(root(*[(name, 1) for name in NAMES[:16]]), file(1))
        self.no(root(*[(name, 1) for name in NAMES[:17]]), file(1))
        for words in ([], ["x"], ("",), ("abcde",), ("A",), (1,), (None,), (("x", 1),), "x", None):
            self.no(entry, (1, "file", "a", "rw--", words))
        for body in ((("a",),), (("a", 1, 1),), (["a", 1],), (("abcd", 1),), (("", 1),), (("a/b", 1),), ((1, "a"),), ("a",),
                     [("a", 1)], None, "a"):
            self.no((0, "folder", "a", "rw--", body), file(1))
        self.no(root(("b", 1), ("a", 1)), file(1))
        self.no(root(("a", 1), ("a", 1)), file(1))
        self.no(root(("a", 1), ("a", 2)), file(1), file(2))
        self.yes(root(("z", 1), ("zz", 1)), file(1, "z"))
        # A body of the other kind.
        self.no(root(("f", 1)), (1, "file", "a", "rw--", (("g", 1),)))
        self.no(root(("f", 1)), (1, "folder", "a", "rw--", ("x",)))

    def test_numbers_ascend(self):
        entries = ("a", 1), ("b", 2)
        self.yes(root(*entries), file(1), file(2))
        self.no(root(*entries), file(2), file(1))
        self.no(file(1), root(("a", 1)))
        self.no(root(("a", 1)), file(1), file(1))
        self.no(root(), root())

    def test_first_node(self):
        self.no(file(0))
        self.no(folder(1))
        self.no(folder(1, ("a", 2)), file(2))

    def test_who_leads_to_nodes(self):
        self.no(root(), file(1))
        self.no(root(), folder(1))
        self.no(root(("a", 1)))
        self.no(root(("a", 1)), folder(1, ("b", 2)))
        self.yes(root(("a", 1), ("b", 1)), file(1))
        self.yes(root(("a", 1), ("b", 2)), folder(1, ("c", 2)), file(2))
        self.no(root(("a", 1), ("b", 1)), folder(1))
        self.no(root(("a", 1), ("b", 2)), folder(1, ("c", 2)), folder(2))
        self.no(root(("a", 0)))
        self.no(root(("a", 1)), folder(1, ("b", 0)))

    def test_rings(self):
        self.no(root(), folder(1, ("a", 2)), folder(2, ("a", 1)))
        self.no(root(), folder(1, ("a", 1)))
        self.no(root(("a", 1)), folder(1, ("a", 1)))
        self.no(root(("f", 4)), folder(1, ("a", 2)), folder(2, ("a", 3), ("f", 4)), folder(3, ("a", 1)), file(4))
        self.no(root(("f", 1)), file(1), folder(2, ("a", 3)), folder(3, ("a", 2)))
        # As many nodes are not reached as entries lead to nothing.
        self.no(root(("a", 9)), folder(1, ("b", 1)))
        self.no(root(("a", 1)), folder(1, ("a", 9)), folder(2, ("a", 2)))

    def test_longest_chain(self):
        chain = [root(("a", 1))] + [folder(number, ("a", number + 1)) for number in range(1, 15)] + [folder(15)]
        self.yes(*chain)
        self.no(*chain[:-1])
        backwards = [root(("a", 15)), folder(1)] + [folder(number, ("a", number - 1)) for number in range(2, 16)]
        self.yes(*backwards)

    def test_any_values(self):
        right = 0
        for value in wrong_values(TABLES, 141, 4000) + some_tables(142, 200):
            answer = right_table(value)
            self.assertIs(is_table(value), answer, repr(value)[:100])
            right += answer
        self.assertGreater(right, 250)


class Showing(unittest.TestCase):
    def test_examples(self):
        self.assertEqual(table_of((("b",), ((("a",), ("x",)),)), "c"),
                         ((0, "folder", "c", "rwrw", (("a", 1), ("b", 2))), (1, "file", "c", "rwrw", ("x",)),
                          (2, "folder", "c", "rwrw", ())))

    def test_shown(self):
        self.assertEqual(unchanged(self, shown, (root(),)), ((), ()))
        self.assertEqual(unchanged(self, shown, BASE), (("b",), ((("a",), ("x", "y")),)))
        self.assertEqual(shown(TABLES[3]), (("a",), ((("a/f", "b"), ()),)))
        self.assertEqual(shown(TABLES[4]), (("a", "a/b"), ((("a/b/c",), ("x", "zz", "word")),)))

    def test_table_of(self):
        for owner in USERS:
            self.assertEqual(table_of(((), ()), owner), ((0, "folder", owner, "rwrw", ()),))
        # The numbers go by "a", "a/c", "aa", "ab" and "b"; the further paths of files do not count.
        tree = (("a", "ab", "b"), ((("a/c", "b/a"), ("y",)), (("aa", "ab/c", "z"), ())))
        self.assertEqual(unchanged(self, table_of, tree, "d"),
                         ((0, "folder", "d", "rwrw", (("a", 1), ("aa", 3), ("ab", 4), ("b", 5), ("z", 3))),
                          (1, "folder", "d", "rwrw", (("c", 2),)), (2, "file", "d", "rwrw", ("y",)),
                          (3, "file", "d", "rwrw", ()), (4, "folder", "d", "rwrw", (("c", 3),)),
                          (5, "folder", "d", "rwrw", (("a", 2),))))

    def test_there_and_back(self):
        dice = random.Random(143)
        for _ in range(500):
            tree = random_tree(dice, most=15, extra=("q", "zz"))
            table = table_of(tree, dice.choice(USERS))
            self.assertTrue(right_table(table), (tree, table))
            self.assertEqual(shown(table), tree)
        for table in some_tables(144, 500, most=14):
            self.assertEqual(shown(table), plain_shown(table), table)

    def test_more_than_a_hundred_paths(self):
        def wide(many):
            rows = [tuple((name, 15) for name in NAMES[:16])] * 7
            left = many - 7
            bodies = []
            for row in rows:
                bodies.append(row[:min(16, left)])
                left -= len(bodies[-1])
            entries = [(NAMES[at], at + 1) for at in range(7)]
            return (root(*entries),) + tuple(folder(at + 1, *bodies[at]) for at in range(7)) + (file(15, "x"),)

        self.assertEqual(len(shown(wide(100))[1][0][0]), 93)
        self.assertTrue(right_tree(shown(wide(100))))
        for many in (101, 110):
            self.assertTrue(is_table(wide(many)))
            with self.assertRaises(InvalidTree):
                shown(wide(many))

    def test_too_large(self):
        names = tuple(NAMES[:16])
        self.assertEqual(len(table_of((names[:15], ()), "a")), 16)
        with self.assertRaises(TooLarge):
            table_of((names, ()), "a")
        chain = tuple("/".join(["a"] * many) for many in range(1, 17))
        self.assertEqual(len(table_of((chain[:15], ()), "a")), 16)
        with self.assertRaises(TooLarge):
            table_of((chain, ()), "a")
        with self.assertRaises(TooLarge):
            table_of((names[:8], tuple(((name,), ()) for name in names[8:])), "a")
        self.assertEqual(table_of(((), ((("a",), ("x",) * 16),)), "a")[1][4], ("x",) * 16)
        with self.assertRaises(TooLarge):
            table_of(((), ((("a",), ("x",) * 17),)), "a")
        self.assertEqual(len(table_of(((), ((names, ()),)), "a")[0][4]), 16)
        with self.assertRaises(TooLarge):
            table_of(((), ((tuple(NAMES[:17]), ()),)), "a")
        with self.assertRaises(TooLarge):
            table_of((("a",), ((tuple("a/" + name for name in NAMES[:17]), ()),)), "a")


class Numbers(unittest.TestCase):
    def test_number_at(self):
        table = TABLES[3]
        for path, number in (("", 0), ("a", 3), ("b", 7), ("a/f", 7), ("c", None), ("a/c", None), ("b/c", None),
                             ("b/c/d/e/f", None), ("c/a", None), ("a/f/f", None), ("f", None)):
            self.assertEqual(unchanged(self, number_at, table, path), number, path)
        chain = (root(("a", 1)),) + tuple(folder(at, ("a", at + 1)) for at in range(1, 15)) + (folder(15),)
        self.assertEqual(number_at(chain, "/".join("a" * 15)), 15)
        self.assertIsNone(number_at(chain, "/".join("a" * 16)))

    def test_all_paths(self):
        for table in some_tables(145, 150):
            tree = plain_shown(table)
            for path in tree[0]:
                number = number_at(table, path)
                self.assertEqual([node[1] for node in table if node[0] == number], ["folder"])
            for paths, words in tree[1]:
                self.assertEqual(len({number_at(table, path) for path in paths}), 1)
                self.assertEqual([node[4] for node in table if node[0] == number_at(table, paths[0])], [words])

    def test_free_number(self):
        self.assertEqual(free_number(table_of((("b",), ()), "a")), 2)
        self.assertEqual(free_number((root(),)), 1)
        self.assertEqual(free_number(TABLES[3]), 1)
        self.assertEqual(free_number(TABLES[4]), 1)
        self.assertEqual(unchanged(self, free_number, BASE), 3)
        self.assertEqual(free_number(table_of((tuple(NAMES[:14]), ()), "a")), 15)
        self.assertIsNone(free_number(table_of((tuple(NAMES[:15]), ()), "a")))


class WrongArguments(unittest.TestCase):
    def test_wrong_tables(self):
        for table in [value for value in wrong_values(TABLES, 146, 300) if not right_table(value)]:
            for call in ((shown, table), (number_at, table, "a"), (number_at, table, None), (free_number, table)):
                with self.assertRaises(InvalidTable, msg=repr(table)[:80]):
                    call[0](*call[1:])

    def test_wrong_paths(self):
        for path in wrong_values(["a", "b/c", ""], 147, 100):
            if path == "" or right_path(path):
                number_at(BASE, path)
            else:
                with self.assertRaises(InvalidPath, msg=repr(path)[:80]):
                    number_at(BASE, path)

    def test_wrong_trees_and_users(self):
        for tree in [value for value in wrong_values([TREE], 148, 100) if not right_tree(value)]:
            for owner in ("a", "e", None):
                with self.assertRaises(InvalidTree):
                    table_of(tree, owner)
        large = (tuple(NAMES[:16]), ())
        for owner in wrong_values(["a", "d"], 149, 50):
            if not right_user(owner):
                for tree in (TREE, large):
                    with self.assertRaises(InvalidUser, msg=repr(owner)[:80]):
                        table_of(tree, owner)
