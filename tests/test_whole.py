"""[0.2], [0.3], [0.6]: what holds over the whole program, and the examples of the document from tables on."""

import random
import unittest

from helpers import TREE, random_call, random_tree
from plain import plain_run
from plaindisks import plain_faults
from plaintables import random_script
from plainwrites import MODES, plain_found
from scripttrees.acting import act, act_all, tables_along
from scripttrees.album import Album
from scripttrees.crashes import can_break, found_disks, found_tables
from scripttrees.cutoff import can_lose, dealings_of, fewest_flushes, trees_found
from scripttrees.disks import blocks_of, choose, count_pieces, loaded, stored
from scripttrees.errors import NoRoom, TooMany
from scripttrees.images import image, read_image, usage
from scripttrees.looker import is_sound
from scripttrees.mender import loss, mended
from scripttrees.quotas import act_within, least_limits, used
from scripttrees.scripts import run, trees_along
from scripttrees.session import Session
from scripttrees.tables import shown, table_of
from scripttrees.writing import apply_writes, brought_to, flushed, writes_for

BASE = table_of((("b",), ((("a",), ("x", "y")),)), "c")
PATHS = ("a", "b", "c", "a/b", "b/a", "c/d", "a/b/c")


class Examples(unittest.TestCase):
    def test_disks_and_writes(self):
        disk = stored(BASE, 12)
        self.assertEqual(blocks_of(disk, 1), [6])
        self.assertEqual(choose(disk, 2), [7, 8])
        self.assertEqual(loaded(disk), BASE)
        self.assertEqual(count_pieces(disk)[:3], [1, 1, 0])
        self.assertEqual(writes_for(disk, BASE), ([], []))
        self.assertIs(flushed(disk) == disk, True)
        self.assertIs(is_sound(disk), True)
        self.assertIs(mended(disk) == disk, True)
        self.assertEqual(loss(disk), [])
        self.assertEqual(image(disk)[6], "x y . .")
        self.assertEqual(usage(disk), "mttttAB.....")

    def test_crashes_and_scripts(self):
        one = table_of(((), ((("a",), ("x",)),)), "c")
        self.assertEqual(len(found_disks(stored(BASE, 12), [], "all")), 1)
        self.assertEqual(dealings_of(BASE, "c", (("drop", "b"),), (0,))[-1], "flush")
        self.assertIs(can_lose(BASE, 12, "c", (("write", "a", "q"),), (), "ordered"), True)
        self.assertEqual(fewest_flushes(BASE, 12, "c", (("write", "a", "q"),), "all"), ())
        self.assertEqual(fewest_flushes(one, 12, "c", (("folder", "d"), ("write", "a", "q")), "ordered"), (0,))

    def test_users_and_sessions(self):
        self.assertEqual(used(BASE, "c"), (3, 2))
        self.assertEqual(act_within(BASE, (("c", 3, 2),), "c", ("file", "f")), ("quota", BASE))
        self.assertEqual(least_limits(BASE, "c", (("file", "f"),)), (4, 0))
        m = Album(BASE, 12)
        m.take("one")
        m.change(table_of(((), ()), "c"))
        self.assertEqual(m.alone("one"), 2)
        s = Session(BASE, "c")
        self.assertEqual(s.do(("drop", "b")), "ok")

    def test_tree_of_the_examples(self):
        # From a tree to a disk and back.
        table = table_of(TREE, "a")
        self.assertEqual(shown(loaded(read_image(image(stored(table, 12))))), TREE)


class WholeProgram(unittest.TestCase):
    def test_what_fails_changes_nothing(self):
        """(a): a call that fails, and all calls behind it, in trees, tables, sessions and under limits."""
        dice = random.Random(1)
        failed = 0
        for _ in range(300):
            tree = random_tree(dice, most=6)
            table = table_of(tree, "a")
            script = tuple(random_call(dice, PATHS) for _ in range(4))
            done, result, end = run(tree, script)
            self.assertEqual((done, result, end), plain_run(tree, script))
            self.assertEqual(trees_along(tree, script)[-1], end)
            session = Session(table, "a")
            for call in script[:done]:
                self.assertEqual(session.do(call), "ok")
            self.assertEqual(act_all(table, "a", script), (done, result, session.table()))
            self.assertEqual(tables_along(table, "a", script)[-1], session.table())
            if result == "ok":
                continue
            failed += 1
            before = session.table()
            self.assertEqual(session.do(script[done]), result)
            self.assertEqual(act(before, "a", script[done]), (result, before))
            self.assertEqual(act_within(before, (("a", 0, 0),), "a", script[done]), (result, before))
            self.assertEqual(session.table(), before)
            self.assertEqual(dealings_of(table, "a", script, ()), tables_along(table, "a", script)[1:])
        self.assertGreater(failed, 100)

    def test_trees_tables_and_disks_agree(self):
        """(d): what succeeds on a tree succeeds on its table, and shows the same tree, also on a disk and in an album."""
        dice = random.Random(2)
        for _ in range(150):
            tree = random_tree(dice, most=6)
            table = table_of(tree, dice.choice("abcd"))
            script = tuple(random_call(dice, PATHS) for _ in range(3))
            done, result, end = run(tree, script)
            self.assertEqual(act_all(table, "b", script)[:2], (done, result))
            after = act_all(table, "b", script)[2]
            self.assertEqual(shown(after), end)
            disk = stored(table, 40)
            contents, names = writes_for(disk, after)
            self.assertEqual(shown(loaded(apply_writes(disk, contents + names))), end)
            self.assertEqual(shown(loaded(mended(brought_to(disk, after)))), end)
            album = Album(table, 40)
            album.take("one")
            album.change(after)
            self.assertEqual((shown(album.table()), shown(album.snapshot("one"))), (end, tree))
            # What a crash leaves in the mode "all" is a tree along the script.
            self.assertEqual(trees_found(table, 40, "b", script, (), "all"), sorted(set(trees_along(tree, script))))

    def test_crashes_and_mending(self):
        """(e): in the modes "all" and "ordered" no crash leaves faults, and mending leaves none on any disk."""
        dice = random.Random(3)
        broken = 0
        for _ in range(150):
            table = table_of(random_tree(dice, most=6), "a")
            dealings = []
            for after in tables_along(table, "a", random_script(dice, table, "a", PATHS))[1:]:
                dealings += [after, "flush"] if dice.random() < 0.3 else [after]
            disk = stored(table, 25)
            for mode in MODES:
                try:
                    disks = found_disks(disk, dealings, mode)
                except (NoRoom, TooMany) as error:
                    self.assertEqual(plain_found(disk, dealings, mode), type(error).__name__)
                    continue
                bad = [found for found in disks if plain_faults(found)]
                self.assertIs(can_break(disk, dealings, mode), bool(bad))
                self.assertTrue(mode == "names" or not bad)
                for found in bad:
                    broken += 1
                    self.assertEqual(plain_faults(mended(found)), [])
                if not bad:
                    self.assertEqual(found_tables(disk, dealings, mode), sorted({loaded(found) for found in disks}))
        self.assertGreater(broken, 10)
