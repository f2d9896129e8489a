"""[0.2] (e), [0.3], [19.1], [19.2], [19.3]: scripts that are cut off."""

import itertools
import random
import time
import unittest

from helpers import unchanged, wrong_values
from plaindisks import disk_for, plain_faults
from plaintables import plain_act, plain_shown, random_script, right_table, right_user, some_tables
from plainwrites import MODES, plain_found, plain_loaded, plain_tables
from scripttrees.crashes import are_dealings, can_break, found_disks, found_tables
from scripttrees.cutoff import can_lose, dealings_of, fewest_flushes, trees_found
from scripttrees.disks import loaded, stored
from scripttrees.errors import (InvalidFlushes, InvalidMode, InvalidScript, InvalidSize, InvalidTable, InvalidUser, NoRoom,
                                TooMany)
from scripttrees.tables import table_of
from scripttrees.trees import is_tree
from worlds import right_script

BASE = table_of((("b",), ((("a",), ("x", "y")),)), "c")
ONE = table_of(((), ((("a",), ("x",)),)), "c")
FLUSH = "flush"
SIX = (("folder", "d"), ("file", "d/f"), ("append", "a", "q"), ("write", "d/f", "w"), ("move", "a", "d/a"), ("drop", "b"))


def plain_along(table, user, script):
    """Return the tables at the beginning and behind each call that succeeds."""
    tables = [table]
    for call in script:
        result, after, _ = plain_act(tables[-1], user, call)
        if result != "ok":
            break
        tables.append(after)
    return tables


def plain_dealings(table, user, script, flushes):
    dealings = []
    for at, after in enumerate(plain_along(table, user, script)[1:]):
        dealings += [after, FLUSH] if at in flushes else [after]
    return dealings


def plain_disks(table, size, user, script, flushes, mode):
    """Return the disks that can be found, or "NoRoom" or "TooMany"."""
    if sum((len(node[4]) + 3) // 4 for node in table) > size - 5:
        return "NoRoom"
    return plain_found(disk_for(table, size), plain_dealings(table, user, script, flushes), mode)


def plain_loses(table, user, script, disks):
    trees = [plain_shown(row) for row in plain_along(table, user, script)]
    return any(plain_faults(disk) or plain_shown(plain_loaded(disk)) not in trees for disk in disks)


def all_flushes(many):
    return [row for length in range(many + 1) for row in itertools.combinations(range(many), length)]


class DealingsOf(unittest.TestCase):
    def check(self, table, user, script, flushes, dealings):
        self.assertEqual(unchanged(self, dealings_of, table, user, script, flushes), dealings)
        self.assertEqual(plain_dealings(table, user, script, flushes), dealings)
        self.assertTrue(are_dealings(dealings))

    def test_example(self):
        self.assertEqual(dealings_of(BASE, "c", (("drop", "b"),), (0,))[-1], "flush")
        self.check(BASE, "c", (("drop", "b"),), (0,), [table_of(((), ((("a",), ("x", "y")),)), "c"), FLUSH])

    def test_empty_script(self):
        self.check(BASE, "c", (), (), [])
        for flushes in ((0,), (-1,), (0, 1)):
            with self.assertRaises(InvalidFlushes):
                dealings_of(BASE, "c", (), flushes)

    def test_all_flushes(self):
        tables = plain_along(BASE, "c", SIX)[1:]
        self.assertEqual(len(tables), 6)
        self.check(BASE, "c", SIX, (), tables)
        self.check(BASE, "c", SIX, (0, 1, 2, 3, 4, 5), [item for table in tables for item in (table, FLUSH)])
        self.check(BASE, "c", SIX, (5,), tables + [FLUSH])
        self.check(BASE, "c", SIX, (0, 3), tables[:1] + [FLUSH] + tables[1:4] + [FLUSH] + tables[4:])

    def test_calls_that_fail_and_calls_that_are_not_made(self):
        script = (("folder", "d"), ("folder", "d"), ("drop", "d"), ("file", "d"))
        tables = plain_along(BASE, "c", script)[1:]
        self.assertEqual(len(tables), 1)
        for flushes in all_flushes(4):
            self.check(BASE, "c", script, flushes, tables + [FLUSH] if 0 in flushes else tables)
        self.check(BASE, "c", (("drop", "a"),), (0,), [])
        self.check(BASE, "c", (("drop", "a"), ("file", "f")), (1,), [])

    def test_users(self):
        closed = tuple(node[:3] + ("rwr-",) + node[4:] for node in BASE)
        self.check(closed, "d", (("file", "f"),), (0,), [])
        self.assertEqual(len(dealings_of(closed, "c", (("file", "f"),), (0,))), 2)
        # What a user makes is theirs.
        self.assertEqual(dealings_of(BASE, "d", (("file", "f"),), ())[0][3], (3, "file", "d", "rwr-", ()))

    def test_calls_that_change_nothing(self):
        self.check(BASE, "c", (("move", "a", "a"), ("move", "b", "b")), (0, 1), [BASE, FLUSH, BASE, FLUSH])


class TreesFound(unittest.TestCase):
    def check(self, table, size, user, script, flushes, mode):
        """See that the answers are those of the dealings; return the trees, and whether something can be lost."""
        disks = plain_disks(table, size, user, script, flushes, mode)
        trees = unchanged(self, trees_found, table, size, user, script, flushes, mode)
        self.assertEqual(trees, sorted({plain_shown(found) for found in plain_tables(disks)}))
        loses = unchanged(self, can_lose, table, size, user, script, flushes, mode)
        self.assertIs(loses, plain_loses(table, user, script, disks))
        dealings = dealings_of(table, user, script, flushes)
        disk = stored(table, size)
        self.assertEqual(found_disks(disk, dealings, mode), disks)
        self.assertEqual(trees, sorted({plain_shown(found) for found in found_tables(disk, dealings, mode)}))
        if can_break(disk, dealings, mode):
            self.assertEqual(mode, "names")
            self.assertIs(loses, True)
        return trees, loses

    def test_examples(self):
        self.assertIs(can_lose(BASE, 12, "c", (("write", "a", "q"),), (), "ordered"), True)
        trees, loses = self.check(BASE, 12, "c", (("write", "a", "q"),), (), "ordered")
        self.assertTrue(loses)
        self.assertEqual(trees, [(("b",), ((("a",), ("q",)),)), (("b",), ((("a",), ("q", "y")),)), (("b",), ((("a",), ("x", "y")),))])

    def test_empty_script(self):
        for mode in MODES:
            self.assertEqual(self.check(BASE, 12, "c", (), (), mode), ([plain_shown(BASE)], False))

    def test_each_mode(self):
        script = (("append", "a", "q"),)
        self.assertEqual([self.check(BASE, 12, "c", script, (), mode)[1] for mode in MODES], [False, False, True])
        # The word is behind the body as long as the names are not there.
        self.assertEqual(len(self.check(BASE, 12, "c", script, (), "ordered")[0]), 2)
        for flushes in ((), (0,)):
            self.assertEqual(self.check(BASE, 12, "c", (("write", "a", "q"),), flushes, "all")[1], False)
            self.assertEqual(self.check(BASE, 12, "c", (("write", "a", "q"),), flushes, "ordered")[1], True)

    def test_flushes(self):
        script = (("folder", "d"), ("write", "a", "q"))
        self.assertEqual([self.check(ONE, 12, "c", script, flushes, "ordered")[1] for flushes in all_flushes(2)],
                         [True, False, True, False])
        for flushes in all_flushes(2):
            self.assertFalse(self.check(ONE, 12, "c", script, flushes, "all")[1])

    def test_disks_that_are_not_sound(self):
        # With a new file of which only the names are there.
        script = (("copy", "a", "f"),)
        trees, loses = self.check(BASE, 12, "c", script, (), "names")
        self.assertEqual(trees, [(("b",), ((("a",), ("x", "y")),)), (("b",), ((("a",), ("x", "y")), (("f",), ("x", "y"))))])
        self.assertTrue(loses)
        self.assertFalse(self.check(BASE, 12, "c", script, (), "ordered")[1])

    def test_calls_that_fail(self):
        script = (("file", "f"), ("drop", "a"), ("write", "a", "q"))
        for mode in MODES:
            trees, loses = self.check(BASE, 12, "c", script, (0, 1, 2), mode)
            self.assertEqual((len(trees), loses), (2, False))

    def test_trees_beyond_the_bounds(self):
        # Seven files with sixteen entries each.
        entries = tuple(("abcdefghijklmnop"[at], 15) for at in range(16))
        names = tuple((name, at + 1) for at, name in enumerate("bcdefgh"))
        table = ((0, "folder", "c", "rwrw", names),) + tuple((at, "folder", "c", "rwrw", entries) for at in range(1, 8)) + (
            (15, "file", "c", "rwrw", ("x",)),)
        self.assertTrue(right_table(table))
        for mode in MODES:
            trees, loses = self.check(table, 40, "c", (("remove", "b/a"), ("write", "b/b", "q")), (0,), mode)
            self.assertFalse(any(is_tree(tree) for tree in trees))
            self.assertEqual((len(trees), loses), (3, False))

    def test_any_scripts(self):
        dice = random.Random(191)
        lost = {mode: 0 for mode in MODES}
        paths = ("a", "b", "c", "a/b", "b/a", "c/d", "d")
        for table in some_tables(192, 250, most=5, rights=("rwrw", "rwrw", "rwr-")):
            script = random_script(dice, table, "a", paths)
            flushes = tuple(at for at in range(len(script)) if dice.random() < 0.3)
            for mode in MODES:
                disks = plain_disks(table, 25, "a", script, flushes, mode)
                if isinstance(disks, str):
                    for function in (trees_found, can_lose):
                        with self.assertRaises({"NoRoom": NoRoom, "TooMany": TooMany}[disks]):
                            function(table, 25, "a", script, flushes, mode)
                    continue
                lost[mode] += self.check(table, 25, "a", script, flushes, mode)[1]
        self.assertEqual(lost["all"], 0)
        self.assertTrue(0 < lost["ordered"] < lost["names"], lost)


class Bounds(unittest.TestCase):
    def raises(self, error, table, size, script, flushes):
        for mode in MODES:
            self.assertEqual(plain_disks(table, size, "c", script, flushes, mode), error.__name__)
            for function in (trees_found, can_lose):
                with self.assertRaises(error):
                    function(table, size, "c", script, flushes, mode)

    def test_no_room(self):
        full = table_of(((), ((("a",), ("x",) * 16), (("b",), ("y",) * 4))), "c")
        self.raises(NoRoom, full, 12, (("append", "b", "y"), ("copy", "a", "c")), ())
        self.raises(NoRoom, full, 12, (("append", "b", "y"), ("copy", "b", "c")), (0, 1))
        wide = table_of(((), ((("a",), ("x",) * 16), (("b",), ("y",) * 16))), "c")
        self.raises(NoRoom, wide, 12, (), ())
        self.raises(NoRoom, wide, 12, (("drop", "q"),), ())
        # A flush makes room where blocks are held.
        script = (("remove", "a"), ("copy", "b", "c"), ("copy", "b", "d"))
        self.raises(NoRoom, full, 12, script, ())
        self.assertEqual(fewest_flushes(full, 12, "c", script, "all"), (0,))

    def test_too_many(self):
        table = table_of(((), ((("a",), ("x",) * 16), (("b",), ("y",) * 8))), "c")
        self.raises(TooMany, table, 40, (("copy", "a", "c"), ("copy", "a", "d")), ())
        self.raises(TooMany, table, 40, (("copy", "a", "c"), ("copy", "b", "d"), ("append", "b", "x")), (2,))
        for mode in MODES:
            self.assertFalse(can_lose(table, 40, "c", (("copy", "a", "c"), ("copy", "a", "d")), (0,), "ordered"))
            self.assertEqual(len(trees_found(table, 40, "c", (("copy", "a", "c"), ("copy", "b", "d")), (), "all")), 3)

    def test_longest_scripts(self):
        files = [("a", "x" * 16), ("b", "y" * 15), ("c", "x"), ("d", "y"), ("e", "x"), ("f", "y" * 4)]
        table = table_of((("g",), tuple(((name,), tuple(words)) for name, words in files)), "c")
        scripts = [tuple(("append", name, "q") for name in "bbcdef"), tuple(("write", name, "q") for name in "cdecde"),
                   (("copy", "a", "h"), ("copy", "a", "i"), ("copy", "a", "j"), ("copy", "c", "k"), ("append", "c", "q"), ("remove", "a")),
                   (("move", "a", "g/a"), ("write", "b", "q"), ("append", "b", "q"), ("append", "c", "q"), ("link", "c", "g/c"),
                    ("write", "g/c", "q"))]
        start = time.monotonic()
        for script in scripts:
            for mode in MODES:
                for flushes in ((), (0, 1, 2, 3, 4, 5), (2,)):
                    try:
                        can_lose(table, 40, "c", script, flushes, mode)
                        trees_found(table, 40, "c", script, flushes, mode)
                    except TooMany:
                        pass
                fewest_flushes(table, 40, "c", script, mode)
        self.assertLess(time.monotonic() - start, 10)


class FewestFlushes(unittest.TestCase):
    def check(self, table, size, user, script, mode):
        found = unchanged(self, fewest_flushes, table, size, user, script, mode)
        wanted = None
        for flushes in all_flushes(len(script)):
            disks = plain_disks(table, size, user, script, flushes, mode)
            if not isinstance(disks, str) and not plain_loses(table, user, script, disks):
                wanted = flushes
                break
        self.assertEqual(found, wanted)
        self.assertIs(type(found), type(wanted))
        return found

    def test_examples(self):
        self.assertEqual(fewest_flushes(BASE, 12, "c", (("write", "a", "q"),), "all"), ())
        script = (("folder", "d"), ("write", "a", "q"))
        self.assertEqual(fewest_flushes(ONE, 12, "c", script, "ordered"), (0,))
        self.assertEqual(self.check(ONE, 12, "c", script, "ordered"), (0,))

    def test_empty_script(self):
        for mode in MODES:
            self.assertEqual(self.check(BASE, 12, "c", (), mode), ())

    def test_none(self):
        for mode in ("ordered", "names"):
            self.assertIsNone(self.check(BASE, 12, "c", (("write", "a", "q"),), mode))
            self.assertIsNone(self.check(ONE, 12, "c", (("folder", "d"), ("write", "a", "q"), ("append", "a", "p"), ("write", "a", "x")), mode))

    def test_several_shortest_ones(self):
        # A flush at either place is enough, the first one is told.
        script = (("folder", "d"), ("folder", "e"), ("write", "a", "q"))
        self.assertEqual(self.check(ONE, 12, "c", script, "ordered"), (1,))
        script = (("folder", "d"), ("move", "b", "b"), ("append", "a", "q"), ("write", "e", "q"))
        table = table_of((("b",), ((("a",), ("x", "y")), (("e",), ("x",)))), "c")
        for mode in MODES:
            self.check(table, 12, "c", script, mode)
        script = (("move", "a", "c"), ("move", "b", "b"), ("write", "e", "q"))
        self.assertEqual(self.check(table, 12, "c", script, "ordered"), (0,))
        self.assertEqual([flushes for flushes in all_flushes(3) if len(flushes) == 1 and not can_lose(
            table, 12, "c", script, flushes, "ordered")], [(0,), (1,)])

    def test_two_flushes(self):
        table = table_of(((), ((("a",), ("x",)), (("b",), ("x",)))), "c")
        script = (("folder", "d"), ("write", "a", "q"), ("folder", "e"), ("write", "b", "q"))
        self.assertEqual(self.check(table, 20, "c", script, "ordered"), (0, 2))

    def test_flushes_that_do_not_count(self):
        # Without a flush there is no room, or there are too many writes.
        full = table_of(((), ((("a",), ("x",) * 16), (("b",), ("y",) * 4))), "c")
        script = (("remove", "a"), ("copy", "b", "c"), ("copy", "b", "d"))
        self.assertEqual(self.check(full, 12, "c", script, "all"), (0,))
        script = (("copy", "b", "c"), ("remove", "a"), ("copy", "b", "d"), ("copy", "b", "e"))
        self.assertEqual(self.check(full, 12, "c", script, "ordered"), (1,))
        many = table_of(((), ((("a",), ("x",) * 16),)), "c")
        script = (("copy", "a", "b"), ("copy", "a", "c"), ("copy", "a", "d"))
        self.assertEqual(self.check(many, 40, "c", script, "all"), (0, 1))
        script = (("folder", "b"), ("copy", "a", "c"), ("copy", "a", "d"))
        self.assertEqual(self.check(many, 40, "c", script, "ordered"), (1,))
        # Nothing can help.
        self.assertIsNone(self.check(full, 12, "c", (("copy", "a", "c"),), "all"))
        wide = table_of(((), ((("a",), ("x",) * 16), (("b",), ("y",) * 16))), "c")
        for mode in MODES:
            self.assertIsNone(self.check(wide, 12, "c", (), mode))

    def test_any_scripts(self):
        dice = random.Random(193)
        answers = set()
        paths = ("a", "b", "c", "a/b", "b/a", "d")
        for table in some_tables(194, 150, most=5, rights=("rwrw",), names=("a", "b")):
            script = random_script(dice, table, "b", paths)
            for mode in MODES:
                answers.add(self.check(table, dice.choice((12, 16)), "b", script, mode))
        self.assertEqual(answers, {None, ()})
        # Files of one word, so that a write has contents only.
        table = table_of((("b",), tuple(((name,), ("x",)) for name in "acd")), "c")
        for _ in range(150):
            script = tuple(call if call[0] in ("folder", "write", "drop", "move", "link") else ("write", "a", dice.choice("xyq"))
                           for call in random_script(dice, table, "a", ("a", "b", "c", "d", "e")))
            for mode in ("ordered", "names"):
                answers.add(self.check(table, 16, "a", script, mode))
        self.assertTrue({None, (), (0,), (1,), (0, 1)} <= answers, answers)


class WrongArguments(unittest.TestCase):
    GOOD = (BASE, 12, "c", (("write", "a", "q"), ("drop", "b")), (0,), "all")
    FUNCTIONS = ((dealings_of, (0, 2, 3, 4)), (trees_found, range(6)), (can_lose, range(6)), (fewest_flushes, (0, 1, 2, 3, 5)))
    ERRORS = (InvalidTable, InvalidSize, InvalidUser, InvalidScript, InvalidFlushes, InvalidMode)

    def all_raise(self, at, value):
        """See that each function raises the error for a wrong argument, also if those behind it are wrong, too."""
        for function, places in self.FUNCTIONS:
            if at not in places:
                continue
            for rest in (self.GOOD[at + 1:], (None,) * (5 - at)):
                values = self.GOOD[:at] + (value,) + rest
                with self.assertRaises(self.ERRORS[at], msg=(function, repr(value)[:100])):
                    function(*[values[place] for place in places])

    def test_good(self):
        for function, places in self.FUNCTIONS:
            function(*[self.GOOD[place] for place in places])

    def test_wrong_flushes(self):
        for flushes in ((2,), (0, 2), (1, 0), (0, 0), (-1,), (-1, 0), (True,), (False,), [0], ("0",), (None,), None, 0, "",
                        ((0,),), (10 ** 3000,), []):
            self.all_raise(4, flushes)
        for flushes in all_flushes(2):
            can_lose(*self.GOOD[:4], flushes, "all")
        for value in wrong_values([(0,), (0, 1), (1,)], 195, 100):
            if value not in all_flushes(2) or any(type(at) is not int for at in value):
                self.all_raise(4, value)

    def test_wrong_values(self):
        for value in wrong_values([BASE, BASE[0]], 196, 150):
            if not right_table(value):
                self.all_raise(0, value)
        for value in [11, 41, True, None] + wrong_values([12], 197, 30):
            if not (type(value) is int and value in range(12, 41)):
                self.all_raise(1, value)
        for value in ["e", "", "ab"] + wrong_values(["c"], 198, 30):
            if not right_user(value):
                self.all_raise(2, value)
        for value in [(("drop", "b"),) * 7, [("drop", "b")]] + wrong_values([(("drop", "b"), ("file", "a"))], 199, 100):
            if not right_script(value):
                self.all_raise(3, value)
        for value in ["All", "none"] + wrong_values(["all"], 200, 30):
            if value not in MODES:
                self.all_raise(5, value)

    def test_errors_of_arguments_come_first(self):
        full = table_of(((), ((("a",), ("x",) * 16), (("b",), ("y",) * 16))), "c")
        with self.assertRaises(InvalidMode):
            can_lose(full, 12, "c", (), (), "none")
        with self.assertRaises(InvalidMode):
            fewest_flushes(full, 12, "c", (), "none")
        with self.assertRaises(NoRoom):
            can_lose(full, 12, "c", (), (), "all")
        self.assertEqual(loaded(stored(full, 14)), full)
