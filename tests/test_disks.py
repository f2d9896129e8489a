"""[0.3], [16.1]: what a disk is."""

import unittest

from helpers import unchanged, wrong_values
from plaindisks import changed, disk_for, right_disk, slot_changed, some_spoiled
from plaintables import some_tables
from scripttrees.disks import is_disk
from scripttrees.tables import table_of

BASE = table_of((("b",), ((("a",), ("x", "y")),)), "c")
DISK = disk_for(BASE, 12)
NODE = ("file", "a", "rw--", 1, ((7, 1),))
BLANK = ("",) * 4


class IsDisk(unittest.TestCase):
    def yes(self, disk):
        self.assertIs(unchanged(self, is_disk, disk), True, disk)

    def no(self, disk):
        self.assertIs(unchanged(self, is_disk, disk), False, disk)

    def test_example(self):
        self.no(())
        self.yes(DISK)

    def test_sizes(self):
        for size in (12, 13, 39, 40):
            self.yes(disk_for(BASE, size))
        self.no(("#" * 11,) + DISK[1:11])
        self.no(("#" * 41,) + disk_for(BASE, 40)[1:] + (BLANK,))
        self.no(DISK[:11])
        self.no(DISK + (BLANK,))
        self.no(list(DISK))
        self.no(None)

    def test_maps(self):
        for sign in "#.h":
            self.yes(changed(DISK, 0, sign * 12))
        for value in ("#" * 11, "#" * 13, "", "#" * 11 + "x", "#" * 11 + " ", "H" * 12, None, ("#",) * 12, 12, ["#" * 12]):
            self.no(changed(DISK, 0, value))

    def test_table_blocks(self):
        for block in (1, 2, 3, 4):
            self.yes(changed(DISK, block, (None,) * 4))
            self.yes(changed(DISK, block, (NODE, None, NODE, NODE)))
            for value in ((None,) * 3, (None,) * 5, (), None, [None] * 4, BLANK, ("x",) * 4, "    "):
                self.no(changed(DISK, block, value))

    def test_slots(self):
        kind, owner, rights, length, extents = NODE
        for good in ((kind, owner, rights, 0, ()), (kind, owner, rights, 16, ()), ("folder", owner, rights, 16, ((0, 40),)),
                     (kind, "d", "----", length, ((39, 40),)), (kind, owner, rights, length, ((0, 1), (0, 1), (1, 1))),
                     (kind, owner, rights, length, ((7, 1),) * 50)):
            self.yes(slot_changed(DISK, 9, good))
        for bad in ((), NODE[:4], NODE + (0,), list(NODE), ("link",) + NODE[1:], (None,) + NODE[1:], (["file"],) + NODE[1:],
                    (kind, "e", rights, length, extents), (kind, "ab", rights, length, extents),
                    (kind, None, rights, length, extents), (kind, owner, "rw", length, extents),
                    (kind, owner, "wrwr", length, extents), (kind, owner, None, length, extents),
                    (kind, owner, rights, -1, extents), (kind, owner, rights, 17, extents),
                    (kind, owner, rights, True, extents), (kind, owner, rights, "1", extents),
                    (kind, owner, rights, None, extents), (kind, owner, rights, length, None),
                    (kind, owner, rights, length, [(7, 1)]), (kind, owner, rights, length, (7, 1)),
                    (kind, owner, rights, length, ((7,),)), (kind, owner, rights, length, ((7, 1, 1),)),
                    (kind, owner, rights, length, ([7, 1],)), (kind, owner, rights, length, ((-1, 1),)),
                    (kind, owner, rights, length, ((40, 1),)), (kind, owner, rights, length, ((7, 0),)),
                    (kind, owner, rights, length, ((7, 41),)), (kind, owner, rights, length, ((True, 1),)),
                    (kind, owner, rights, length, ((7, True),)), (kind, owner, rights, length, ((7, "1"),)),
                    (kind, owner, rights, length, ((7, 10 ** 3000),)), 0, "", "-", True):
            self.no(slot_changed(DISK, 9, bad))
            self.no(slot_changed(DISK, 0, bad))

    def test_data_blocks(self):
        for value in (BLANK, ("", "x", ("a", 1), "word"), (("a", 0), ("a", 15), ("zzz", 1), ("a", 0)), ("zzzz",) * 4):
            for block in (5, 8, 11):
                self.yes(changed(DISK, block, value))
        for value in (("",) * 3, ("",) * 5, (), None, [""] * 4, "xxxx"):
            self.no(changed(DISK, 11, value))
        for item in (None, 0, True, " ", "abcde", "A", "a/b", ("a",), ("a", 16), ("a", -1), ("a", True), ("a", None), ("", 1),
                     ("abcd", 1), (1, "a"), ["a", 1], ("a", 1, 1), (), (("a", 1),), ("a", 10 ** 3000)):
            self.no(changed(DISK, 11, item, 2))

    def test_disks_with_faults_are_disks(self):
        for disk in some_spoiled(some_tables(165, 20), 166, 300):
            self.yes(disk)
            self.assertTrue(right_disk(disk))

    def test_any_values(self):
        right = 0
        for value in wrong_values([DISK, disk_for(BASE, 13), DISK[1:], slot_changed(DISK, 9, NODE)], 167, 5000):
            answer = right_disk(value)
            self.assertIs(is_disk(value), answer, repr(value)[:200])
            right += answer
        self.assertGreater(right, 100)
