"""[0.3], [23.1], [23.2], [23.3]: snapshots that share blocks."""

import copy
import random
import unittest

from helpers import JUNK, right_name, wrong_values
from plaintables import right_table, random_table
from plainmending import Full, PlainAlbum
from plainwrites import other_table
from scripttrees import errors
from scripttrees.album import Album
from scripttrees.errors import Exists, InvalidName, InvalidSize, InvalidTable, NoRoom, NoSnapshot
from scripttrees.tables import table_of
from test_writing import other_body, table

BASE = table_of((("b",), ((("a",), ("x", "y")),)), "c")
BARE = table_of(((), ()), "c")


def words(text, *more):
    """Return a table with a file with these letters as its words, and further files."""
    names = {"abcdef"[at]: at + 1 for at in range(1 + len(more))}
    return table((0, names), *[(at + 1, body) for at, body in enumerate((text,) + more)])


class Basics(unittest.TestCase):
    def test_example(self):
        m = Album(BASE, 12)
        m.take("one")
        m.change(table_of(((), ()), "c"))
        self.assertEqual(m.alone("one"), 2)

    def test_at_the_beginning(self):
        for size in (12, 13, 40):
            album = Album(BASE, size)
            self.assertEqual((album.table(), album.taken(), album.free()), (BASE, [], size - 7))
        self.assertEqual(Album(words("x" * 16, "y" * 8), 12).free(), 0)
        self.assertEqual(Album(BARE, 12).free(), 7)

    def test_methods_stand_in_the_class(self):
        for name in "table taken free change take drop snapshot alone go_back".split():
            self.assertIn(name, vars(Album))

    def test_wrong_arguments(self):
        wide = words("x" * 16, "y" * 9)
        for size in (11, 41, True, None, "12", (12,), -1):
            with self.assertRaises(InvalidSize):
                Album(wide, size)
            with self.assertRaises(InvalidTable):
                Album(wide[1:], size)
        with self.assertRaises(NoRoom):
            Album(wide, 12)
        Album(wide, 13)
        for value in wrong_values([BASE, BASE[0]], 231, 400):
            if not right_table(value):
                with self.assertRaises(InvalidTable, msg=repr(value)[:100]):
                    Album(value, None)
        for value in wrong_values([12, 40], 232, 60):
            if not (type(value) is int and value in range(12, 41)):
                with self.assertRaises(InvalidSize, msg=repr(value)[:100]):
                    Album(BASE, value)


class Changing(unittest.TestCase):
    def change(self, album, after, many, free):
        """Change an album, and see how many blocks are chosen, and how many are free."""
        kept = copy.deepcopy(after)
        self.assertEqual(album.change(after), many)
        self.assertEqual(after, kept)
        self.assertEqual((album.table(), album.free()), (after, free))

    def test_without_snapshots(self):
        album = Album(BASE, 12)
        self.change(album, BASE, 0, 5)
        self.change(album, other_body(BASE, 1, "q", "r"), 0, 5)
        self.change(album, other_body(BASE, 1, *"qrstu"), 1, 4)
        self.change(album, other_body(BASE, 1, *("x" * 16)), 2, 2)
        self.change(album, other_body(BASE, 1, "x"), 0, 5)
        self.change(album, other_body(BASE, 1), 0, 6)
        self.change(album, BARE, 0, 7)
        self.change(album, BASE, 2, 5)

    def test_only_changed_blocks_are_replaced(self):
        album = Album(words("abcdefgh"), 20)
        self.assertEqual(album.free(), 12)
        album.take("one")
        self.assertEqual(album.free(), 12)
        self.change(album, words("abcdefgx"), 1, 11)
        # No snapshot has the new block.
        self.change(album, words("abcdefgy"), 0, 11)
        self.change(album, words("xbcdefgy"), 1, 10)
        self.change(album, words("abcdefgh"), 0, 10)
        self.assertEqual(album.alone("one"), 2)
        self.assertEqual(album.snapshot("one"), words("abcdefgh"))
        album.take("two")
        self.assertEqual((album.alone("one"), album.alone("two")), (2, 0))
        self.change(album, words("abcdefgh", "q"), 2, 8)

    def test_owners_and_rights_need_no_blocks(self):
        album = Album(BASE, 12)
        album.take("one")
        after = tuple(node[:2] + ("a", "r---") + node[4:] for node in BASE)
        self.change(album, after, 0, 5)
        self.assertEqual(album.snapshot("one"), BASE)

    def test_growing(self):
        # The last block is changed, and one comes behind; both are chosen together.
        album = Album(words("ab"), 20)
        album.take("one")
        self.change(album, words("abcdef"), 2, 11)
        self.assertEqual(album.alone("one"), 1)
        full = Album(words("abcd"), 20)
        full.take("one")
        self.change(full, words("abcdef"), 1, 12)
        self.assertEqual(full.alone("one"), 0)

    def test_shrinking(self):
        album = Album(words("abcdefghi"), 20)
        album.take("one")
        # Nothing changes in the block that stays, and blocks that a snapshot has do not become free.
        self.change(album, words("abc"), 0, 11)
        self.assertEqual(album.alone("one"), 2)
        self.change(album, words("abcd"), 0, 11)
        self.change(album, words("abcx"), 1, 10)
        self.change(album, words(""), 0, 11)
        self.assertEqual(album.alone("one"), 3)

    def test_items_behind_the_body_move_along(self):
        album = Album(words("abcd"), 20)
        album.take("one")
        self.change(album, words("xb"), 1, 12)
        # The replaced block still has the further items c and d, so that nothing is replaced for them.
        album.take("two")
        self.change(album, words("xbcd"), 0, 12)
        self.change(album, words("xbcq"), 1, 11)

    def test_old_items_of_free_blocks(self):
        album = Album(words("abcd"), 12)
        self.change(album, words(""), 0, 6)
        # The only file gets the block again, with the old items behind its body.
        self.change(album, words("x"), 1, 5)
        album.take("one")
        self.change(album, words("xbcd"), 0, 5)
        self.change(album, words("xccd"), 1, 4)

    def test_folders(self):
        album = Album(words("", "", "", ""), 12)
        album.take("one")
        self.change(album, words("", "", "", "", ""), 1, 5)
        self.change(album, words("", "", "", "", "", ""), 0, 5)
        # Fewer entries: the first ones are as before in a block that only the table has.
        self.change(album, words("", "", ""), 0, 6)
        self.change(album, table((0, {"b": 1}), (1, "")), 1, 5)
        self.assertEqual(album.snapshot("one"), words("", "", "", ""))

    def test_what_is_given_back_is_free_behind(self):
        album = Album(words("x" * 16, "y"), 12)
        self.assertEqual(album.free(), 1)
        self.change(album, words("x", "y" * 16), 3, 1)
        # Not for nodes before.
        album = Album(words("x", "y" * 16), 12)
        with self.assertRaises(NoRoom):
            album.change(words("x" * 16, "y"))
        self.assertEqual((album.table(), album.free()), (words("x", "y" * 16), 1))
        # Not where a snapshot has it.
        album = Album(words("x" * 16, "y"), 12)
        album.take("one")
        with self.assertRaises(NoRoom):
            album.change(words("x", "y" * 16))

    def test_a_node_does_not_get_what_it_gives_back_itself(self):
        one = table((0, {"a": 1}), (1, "x" * 16))
        entries = {"abcdefghijklm"[at]: at + 2 for at in range(13)}
        two = table((0, {"a": 1}), (1, entries), *[(at + 2, "") for at in range(13)])
        album = Album(one, 12)
        self.assertEqual(album.free(), 2)
        with self.assertRaises(NoRoom):
            album.change(two)
        self.assertEqual((album.table(), album.free()), (one, 2))
        album = Album(one, 14)
        self.change(album, two, 4, 4)

    def test_no_room_changes_nothing(self):
        album = Album(words("abcd", "efgh"), 12)
        album.take("one")
        album.change(words("abcx", "efgh"))
        self.assertEqual(album.free(), 3)
        # The first file would get its words, and the second one finds no room.
        with self.assertRaises(NoRoom):
            album.change(words("qrst", "x" * 16))
        self.assertEqual((album.table(), album.free(), album.taken()), (words("abcx", "efgh"), 3, ["one"]))
        self.assertEqual((album.alone("one"), album.snapshot("one")), (1, words("abcd", "efgh")))
        # The block still has the words of before.
        album.take("two")
        self.assertEqual(album.change(words("abcx", "efgh")), 0)
        self.assertEqual(album.change(words("abcx", "efgq")), 1)

    def test_wrong_tables(self):
        album = Album(BASE, 12)
        for value in wrong_values([BASE, BASE[0]], 233, 400):
            if not right_table(value):
                with self.assertRaises(InvalidTable, msg=repr(value)[:100]):
                    album.change(value)
                self.assertEqual((album.table(), album.free()), (BASE, 5))


class Snapshots(unittest.TestCase):
    def test_taking(self):
        album = Album(BASE, 12)
        for name in ("one", "a", "zzz", "two", "b"):
            self.assertIsNone(album.take(name))
        self.assertEqual(album.taken(), ["a", "b", "one", "two", "zzz"])
        album.taken().append("more")
        self.assertEqual(album.taken(), ["a", "b", "one", "two", "zzz"])
        for name in ("one", "a"):
            with self.assertRaises(Exists):
                album.take(name)
        self.assertEqual((album.free(), album.table()), (5, BASE))

    def test_names_that_are_none(self):
        album = Album(BASE, 12)
        album.take("one")
        for name in JUNK + ["abcd", "A", "a/b", "one ", ["one"], ("one",), [["one"]]]:
            if not right_name(name):
                with self.assertRaises(InvalidName, msg=repr(name)[:80]):
                    album.take(name)
            for method in (album.drop, album.snapshot, album.alone, album.go_back):
                with self.assertRaises(NoSnapshot, msg=repr(name)[:80]):
                    method(name)
        self.assertEqual((album.taken(), album.table(), album.free()), (["one"], BASE, 5))

    def test_missing_snapshots(self):
        album = Album(BASE, 12)
        for method in (album.drop, album.snapshot, album.alone, album.go_back):
            with self.assertRaises(NoSnapshot):
                method("one")
        album.take("one")
        album.drop("one")
        for method in (album.drop, album.snapshot, album.alone, album.go_back):
            with self.assertRaises(NoSnapshot):
                method("one")
        album.take("one")
        self.assertEqual(album.snapshot("one"), BASE)

    def test_alone_and_drop(self):
        album = Album(words("abcd", "efgh"), 20)
        album.take("one")
        self.assertEqual(album.alone("one"), 0)
        album.change(words("abcx", "efgh"))
        album.take("two")
        album.change(words("abcx", "efgx"))
        album.take("six")
        # one: the block of abcd; abcx is shared by two and six; efgh by one and two; efgx by six and the table.
        self.assertEqual([album.alone(name) for name in ("one", "two", "six")], [1, 0, 0])
        album.change(BARE)
        self.assertEqual([album.alone(name) for name in ("one", "two", "six")], [1, 0, 1])
        self.assertEqual(album.free(), 10)
        self.assertEqual(album.drop("two"), 0)
        self.assertEqual([album.alone(name) for name in ("one", "six")], [2, 2])
        self.assertEqual(album.drop("six"), 2)
        self.assertEqual((album.alone("one"), album.free(), album.taken()), (3, 12, ["one"]))
        self.assertEqual(album.drop("one"), 3)
        self.assertEqual((album.free(), album.taken()), (15, []))

    def test_several_snapshots_of_the_same_table(self):
        album = Album(BASE, 12)
        album.take("one")
        album.take("two")
        album.change(BARE)
        self.assertEqual((album.alone("one"), album.alone("two")), (0, 0))
        self.assertEqual(album.drop("one"), 0)
        self.assertEqual(album.alone("two"), 2)
        self.assertEqual(album.drop("two"), 2)
        self.assertEqual(album.free(), 7)

    def test_dropping_what_the_table_has(self):
        album = Album(BASE, 12)
        album.take("one")
        self.assertEqual(album.drop("one"), 0)
        self.assertEqual(album.table(), BASE)
        # Now no snapshot has its blocks.
        self.assertEqual(album.change(other_body(BASE, 1, "q")), 0)

    def test_going_back(self):
        album = Album(words("abcd", "efgh"), 20)
        album.take("one")
        album.change(words("abcx", "efghi"))
        self.assertEqual(album.free(), 10)
        self.assertEqual(album.go_back("one"), 2)
        self.assertEqual((album.table(), album.free(), album.taken()), (words("abcd", "efgh"), 12, ["one"]))
        # Once more changes nothing; blocks are shared again.
        self.assertEqual(album.go_back("one"), 0)
        self.assertEqual(album.table(), words("abcd", "efgh"))
        self.assertEqual(album.alone("one"), 0)
        self.assertEqual(album.change(words("abcx", "efgh")), 1)
        self.assertEqual(album.snapshot("one"), words("abcd", "efgh"))

    def test_going_back_to_and_fro(self):
        album = Album(words("abcd"), 12)
        album.take("one")
        album.change(words("xbcd"))
        album.take("two")
        album.change(words("ybcd"))
        self.assertEqual(album.go_back("one"), 1)
        self.assertEqual(album.go_back("two"), 0)
        self.assertEqual(album.table(), words("xbcd"))
        self.assertEqual(album.drop("two"), 0)
        self.assertEqual(album.go_back("one"), 1)
        self.assertEqual((album.table(), album.free()), (words("abcd"), 5))

    def test_two_albums_have_nothing_in_common(self):
        one, other = Album(BASE, 12), Album(BASE, 12)
        one.take("one")
        one.change(BARE)
        self.assertEqual((other.table(), other.taken(), other.free()), (BASE, [], 5))
        other.take("one")
        self.assertEqual((one.alone("one"), other.alone("one")), (2, 0))
        other.drop("one")
        self.assertEqual(one.taken(), ["one"])


class AnyTurns(unittest.TestCase):
    def test_any_turns(self):
        dice = random.Random(234)
        full = 0
        for _ in range(400):
            now = random_table(dice, most=dice.choice((2, 5)))
            size = dice.choice((12, 14, 20))
            if sum((len(node[4]) + 3) // 4 for node in now) > size - 5:
                continue
            album, plain = Album(now, size), PlainAlbum(now, size)
            for _ in range(15):
                full += self.turn(dice, album, plain)
                self.assertEqual((album.table(), album.free(), album.taken()), (plain.now, plain.free(), sorted(plain.kept)))
                for name in plain.kept:
                    self.assertEqual((album.snapshot(name), album.alone(name)), (plain.kept[name][0], plain.alone(name)))
        self.assertGreater(full, 20)

    def turn(self, dice, album, plain):
        """Do the same to both, and return whether there was no room."""
        name, turn = dice.choice("abc"), dice.randrange(7)
        if turn < 4:
            after = other_table(dice, plain.now)
            try:
                many = plain.change(after)
            except Full:
                with self.assertRaises(NoRoom):
                    album.change(after)
                return True
            self.assertEqual(album.change(after), many)
        elif turn == 4 and name not in plain.kept:
            plain.take(name)
            album.take(name)
        elif name in plain.kept:
            if turn == 5:
                self.assertEqual(album.drop(name), plain.drop(name))
            else:
                self.assertEqual(album.go_back(name), plain.go_back(name))
        return False

    def test_errors_are_script_errors(self):
        for error in (Exists, InvalidName, NoSnapshot):
            self.assertTrue(issubclass(error, errors.ScriptError))
