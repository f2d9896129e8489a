"""[0.3], [16.1], [16.2], [20.1], [20.2]: the faults of disks."""

import unittest

from helpers import unchanged, wrong_values
from plaindisks import changed, disk_for, plain_faults, right_disk, slot_changed, some_spoiled
from plaintables import some_tables
from scripttrees.errors import InvalidDisk
from scripttrees.looker import faults, is_sound
from scripttrees.tables import table_of

BASE = table_of((("b",), ((("a",), ("x", "y")),)), "c")
# The root folder has block 5, the file a is node 1 with block 6, and the folder b is node 2 without one.
DISK = disk_for(BASE, 12)
ROOT, FILE, FOLDER = DISK[1][:3]
WIDE = table_of((("d", "d/e"), ((("d/g", "h"), ("y",)), (("f",), ("x",) * 9))), "a")
MISSING = (None,) * 4


def with_extents(slot, *extents, length=None):
    kind, owner, rights, old, _ = slot
    return kind, owner, rights, old if length is None else length, extents


class Faults(unittest.TestCase):
    def check(self, disk, *rows):
        """See that a disk has these faults, in this order."""
        self.assertTrue(right_disk(disk), disk)
        self.assertEqual(plain_faults(disk), list(rows))
        self.assertEqual(unchanged(self, faults, disk), list(rows))
        self.assertIs(unchanged(self, is_sound, disk), not rows)

    def test_sound_disks(self):
        self.check(DISK)
        self.check(disk_for(WIDE, 40, range(39, 4, -1)))
        for table in some_tables(201, 200):
            self.check(disk_for(table, 40))

    def test_held_and_free_blocks(self):
        for sign in ".h":
            for block in range(7, 12):
                self.check(changed(DISK, 0, sign, block))
        # Items behind the length and in blocks that no node has mean nothing.
        self.check(changed(changed(DISK, 6, ("a", 0), 3), 11, ("x", ("b", 2), "y", "")))

    def test_map(self):
        for sign in ".h":
            for block in range(7):
                self.check(changed(DISK, 0, sign, block), ("map", block))
        self.check(changed(DISK, 0, "." * 12), *[("map", block) for block in range(7)])
        self.check(changed(DISK, 0, "h" * 12), *[("map", block) for block in range(7)])

    def test_lost(self):
        self.check(changed(DISK, 0, "#", 9), ("lost", 9))
        self.check(changed(DISK, 0, "#" * 12), *[("lost", block) for block in range(7, 12)])
        self.check(changed(DISK, 0, "hhhhh..####."), ("lost", 7), ("lost", 8), ("lost", 9), ("lost", 10),
                   *[("map", block) for block in range(7)])

    def test_root(self):
        for root, more in ((None, (("lost", 5),)), (("file",) + ROOT[1:], (("body", 0),))):
            disk = slot_changed(DISK, 0, root)
            self.check(disk, *more, ("root", 0), ("unreached", 1), ("unreached", 2))
        blank = changed(slot_changed(slot_changed(DISK, 1, None), 2, None), 0, "#####.......")
        self.check(slot_changed(blank, 0, None), ("root", 0))
        self.check(slot_changed(blank, 0, ("file", "a", "rwrw", 0, ())), ("root", 0))
        self.check(slot_changed(blank, 0, ("folder", "d", "----", 0, ())))

    def test_lead(self):
        self.check(slot_changed(DISK, 2, None), ("lead", 0, "b"))
        self.check(slot_changed(slot_changed(DISK, 2, None), 1, None), ("lead", 0, "a"), ("lead", 0, "b"), ("lost", 6))
        self.check(changed(DISK, 5, ("b", 0), 1), ("lead", 0, "b"), ("unreached", 2))
        self.check(changed(DISK, 5, ("b", 15), 1), ("lead", 0, "b"), ("unreached", 2))
        # Also in folders that are not reached.
        disk = slot_changed(changed(DISK, 7, (("q", 9), "", "", "")), 2, with_extents(FOLDER, (7, 1), length=1))
        self.check(changed(disk, 0, "#", 7), ("lead", 2, "q"))
        self.check(changed(changed(disk, 0, "#", 7), 5, (("a", 1), ("b", 1), "", "")), ("lead", 2, "q"), ("unreached", 2))

    def test_twice(self):
        disk = slot_changed(changed(DISK, 5, ("c", 2), 2), 0, with_extents(ROOT, (5, 1), length=3))
        self.check(disk, ("twice", 2))
        # Several entries may lead to a file, but none to the root folder.
        self.check(changed(disk, 5, ("c", 1), 2))
        self.check(changed(disk, 5, ("c", 0), 2), ("lead", 0, "c"))
        self.check(changed(disk, 5, (("a", 0), ("b", 0), ("c", 1), "")), ("lead", 0, "a"), ("lead", 0, "b"), ("unreached", 2))
        self.check(changed(disk, 5, (("a", 2), ("b", 2), ("c", 2), "")), ("twice", 2), ("unreached", 1))
        # A folder in itself, which is entered from elsewhere, too.
        ring = slot_changed(changed(DISK, 7, (("q", 2), "", "", "")), 2, with_extents(FOLDER, (7, 1), length=1))
        ring = changed(ring, 0, "#", 7)
        self.check(ring, ("twice", 2))
        self.check(changed(ring, 5, ("b", 1), 1), ("unreached", 2))
        # Two entries from folders that are not reached count, too.
        self.check(changed(changed(ring, 5, ("b", 1), 1), 7, (("q", 2), ("r", 2), "", "")), ("unreached", 2))
        two = slot_changed(changed(changed(ring, 5, ("b", 1), 1), 7, (("q", 2), ("r", 2), "", "")), 2,
                           with_extents(FOLDER, (7, 1), length=2))
        self.check(two, ("twice", 2), ("unreached", 2))

    def test_unreached(self):
        for number in range(3, 16):
            self.check(slot_changed(DISK, number, FOLDER), ("unreached", number))
            self.check(slot_changed(DISK, number, ("file", "a", "rwrw", 0, ())), ("unreached", number))
        self.check(slot_changed(DISK, 0, with_extents(ROOT, (5, 1), length=0)), ("unreached", 1), ("unreached", 2))
        self.check(slot_changed(DISK, 0, with_extents(ROOT, (5, 1), length=1)), ("unreached", 2))

    def test_blocks_beyond_the_end(self):
        self.check(slot_changed(DISK, 1, with_extents(FILE, (6, 1), (12, 1))), ("body", 1))
        self.check(slot_changed(DISK, 1, with_extents(FILE, (39, 40))), ("body", 1), ("lost", 6))
        self.check(slot_changed(DISK, 1, with_extents(FILE, (11, 2))), ("body", 1), ("lost", 6), ("map", 11))
        # Also where the body needs none of them.
        self.check(slot_changed(DISK, 2, with_extents(FOLDER, (12, 1))), ("body", 2))

    def test_blocks_that_are_no_data_blocks(self):
        for block in range(5):
            self.check(slot_changed(DISK, 1, with_extents(FILE, (6, 1), (block, 1))), ("body", 1))
        self.check(slot_changed(DISK, 1, with_extents(FILE, (4, 1), (6, 1))), ("body", 1))

    def test_blocks_of_two_nodes(self):
        disk = slot_changed(DISK, 2, with_extents(FOLDER, (6, 1)))
        self.check(disk, ("body", 1), ("body", 2))
        # The root folder counts as empty then.
        disk = slot_changed(DISK, 2, with_extents(FOLDER, (5, 1)))
        self.check(disk, ("body", 0), ("body", 2), ("unreached", 1), ("unreached", 2))
        # Other nodes are good as before.
        wide = disk_for(WIDE, 40)
        twins = slot_changed(wide, 9, ("file", "a", "rwrw", 1, wide[1 + 3 // 4][3][4]))
        self.assertIn(("body", 9), faults(twins))
        self.assertNotIn(("body", 0), faults(twins))

    def test_block_twice_at_one_node(self):
        self.check(slot_changed(DISK, 1, with_extents(FILE, (6, 1), (6, 1))), ("body", 1))
        self.check(changed(slot_changed(DISK, 1, with_extents(FILE, (6, 2), (7, 1))), 0, "#", 7), ("body", 1))
        # Extents that could be written as one are no fault.
        self.check(changed(slot_changed(DISK, 1, with_extents(FILE, (6, 1), (7, 1))), 0, "#", 7))
        self.check(changed(slot_changed(DISK, 1, with_extents(FILE, (6, 1), (11, 1))), 0, "#", 11))

    def test_length_beyond_the_items(self):
        self.check(slot_changed(DISK, 1, with_extents(FILE, length=1)), ("body", 1), ("lost", 6))
        self.check(slot_changed(DISK, 1, with_extents(FILE, length=0)), ("lost", 6))
        self.check(slot_changed(changed(DISK, 6, ("x",) * 4), 1, with_extents(FILE, (6, 1), length=4)))
        self.check(slot_changed(changed(DISK, 6, ("x",) * 4), 1, with_extents(FILE, (6, 1), length=5)), ("body", 1))
        self.check(slot_changed(DISK, 2, with_extents(FOLDER, length=1)), ("body", 2))
        self.check(slot_changed(DISK, 0, with_extents(ROOT, (5, 1), length=3)), ("body", 0), ("unreached", 1),
                   ("unreached", 2))

    def test_items_of_the_other_kind(self):
        self.check(changed(DISK, 6, ("a", 1), 1), ("body", 1))
        self.check(changed(DISK, 6, "", 0), ("body", 1))
        self.check(changed(DISK, 6, "", 2))
        self.check(changed(DISK, 5, "x", 1), ("body", 0), ("unreached", 1), ("unreached", 2))
        self.check(changed(DISK, 5, "", 0), ("body", 0), ("unreached", 1), ("unreached", 2))
        self.check(slot_changed(DISK, 1, ("folder",) + FILE[1:]), ("body", 1))

    def test_entries_out_of_order(self):
        rest = ("unreached", 1), ("unreached", 2)
        self.check(changed(DISK, 5, (("b", 2), ("a", 1), "", "")), ("body", 0), *rest)
        self.check(changed(DISK, 5, (("a", 1), ("a", 2), "", "")), ("body", 0), *rest)
        self.check(changed(DISK, 5, (("a", 2), ("b", 1), "", "")))
        self.check(changed(DISK, 5, (("a", 1), ("aa", 2), "", "")))

    def test_several_at_once(self):
        disk = changed(DISK, 0, "h#.###.##h#.")
        disk = slot_changed(slot_changed(disk, 12, with_extents(FILE, (10, 3))), 1, with_extents(FOLDER, (7, 1), length=2))
        disk = changed(disk, 7, (("m", 0), ("n", 1), "", ""))
        self.check(disk, ("body", 12), ("lead", 1, "m"), ("lost", 8), ("map", 0), ("map", 2), ("map", 11), ("twice", 1),
                   ("unreached", 12))

    def test_empty_disk(self):
        blank = ("." * 12,) + (MISSING,) * 4 + (("",) * 4,) * 7
        self.check(blank, *[("map", block) for block in range(5)], ("root", 0))

    def test_rings(self):
        ring = slot_changed(slot_changed(DISK, 3, with_extents(FOLDER, (7, 1), length=1)), 4,
                            with_extents(FOLDER, (8, 1), length=1))
        ring = changed(changed(changed(ring, 7, (("q", 4), "", "", "")), 8, (("q", 3), "", "", "")), 0, "#########...")
        self.check(ring, ("unreached", 3), ("unreached", 4))

    def test_any_disks(self):
        kinds, sound = set(), 0
        for disk in some_spoiled(some_tables(202, 60, most=13), 203, 6000):
            rows = plain_faults(disk)
            self.assertEqual(faults(disk), rows, disk)
            self.assertIs(is_sound(disk), not rows)
            kinds.update(row[0] for row in rows)
            sound += not rows
        self.assertEqual(kinds, {"body", "lead", "lost", "map", "root", "twice", "unreached"})
        self.assertTrue(500 < sound < 3000, sound)

    def test_largest_slots(self):
        full = ("file", "a", "rwrw", 16, ((0, 40),) * 40)
        disk = ("#" * 40,) + ((full,) * 4,) * 4 + (("x",) * 4,) * 35
        self.check(disk, *[("body", number) for number in range(16)], ("root", 0),
                   *[("unreached", number) for number in range(1, 16)])


class WrongArguments(unittest.TestCase):
    def test_wrong_disks(self):
        for disk in wrong_values([DISK, DISK[0], DISK[1], ROOT], 204, 600):
            if right_disk(disk):
                self.assertEqual(faults(disk), plain_faults(disk))
                continue
            for function in (faults, is_sound):
                with self.assertRaises(InvalidDisk, msg=repr(disk)[:100]):
                    function(disk)
