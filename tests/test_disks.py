"""[0.3], [16.1], [16.2], [16.3], [16.4], [16.5]: disks."""

import random
import unittest

from helpers import unchanged, wrong_values
from plaindisks import changed, disk_for, plain_faults, right_disk, slot_changed, some_spoiled
from plaintables import right_table, some_tables
from plainwrites import plain_choose, plain_loaded, random_disk
from scripttrees.disks import blocks_of, choose, count_free, count_pieces, is_disk, loaded, stored
from scripttrees.errors import (InvalidDisk, InvalidMany, InvalidNumber, InvalidSize, InvalidTable, NoNode, NoRoom,
                                Unsound)
from scripttrees.tables import table_of

BASE = table_of((("b",), ((("a",), ("x", "y")),)), "c")
DISK = disk_for(BASE, 12)
ROOT, FILE, FOLDER = DISK[1][:3]
NODE = ("file", "a", "rw--", 1, ((7, 1),))
WIDE = table_of((("d", "d/e"), ((("d/g", "h"), ("y",)), (("f",), ("x",) * 9))), "a")
BLANK = ("",) * 4


class IsDisk(unittest.TestCase):
    def yes(self, disk):
        self.assertIs(unchanged(self, is_disk, disk), True, disk)

    def no(self, disk):
        self.assertIs(unchanged(self, is_disk, disk), False, disk)

    def test_example(self):
        self.no(())
        self.yes(DISK)

    def test_sizes(self):
        for size in (12, 13, 39, 40):
            self.yes(disk_for(BASE, size))
        self.no(("#" * 11,) + DISK[1:11])
        self.no(("#" * 41,) + disk_for(BASE, 40)[1:] + (BLANK,))
        self.no(DISK[:11])
        self.no(DISK + (BLANK,))
        self.no(list(DISK))
        self.no(None)

    def test_maps(self):
        for sign in "#.h":
            self.yes(changed(DISK, 0, sign * 12))
        for value in ("#" * 11, "#" * 13, "", "#" * 11 + "x", "#" * 11 + " ", "H" * 12, None, ("#",) * 12, 12, ["#" * 12]):
            self.no(changed(DISK, 0, value))

    def test_table_blocks(self):
        for block in (1, 2, 3, 4):
            self.yes(changed(DISK, block, (None,) * 4))
            self.yes(changed(DISK, block, (NODE, None, NODE, NODE)))
            for value in ((None,) * 3, (None,) * 5, (), None, [None] * 4, BLANK, ("x",) * 4, "    "):
                self.no(changed(DISK, block, value))

    def test_slots(self):
        kind, owner, rights, length, extents = NODE
        for good in ((kind, owner, rights, 0, ()), (kind, owner, rights, 16, ()), ("folder", owner, rights, 16, ((0, 40),)),
                     (kind, "d", "----", length, ((39, 40),)), (kind, owner, rights, length, ((0, 1), (0, 1), (1, 1))),
                     (kind, owner, rights, length, ((7, 1),) * 50)):
            self.yes(slot_changed(DISK, 9, good))
        for bad in ((), NODE[:4], NODE + (0,), list(NODE), ("link",) + NODE[1:], (None,) + NODE[1:], (["file"],) + NODE[1:],
                    (kind, "e", rights, length, extents), (kind, "ab", rights, length, extents),
                    (kind, None, rights, length, extents), (kind, owner, "rw", length, extents),
                    (kind, owner, "wrwr", length, extents), (kind, owner, None, length, extents),
                    (kind, owner, rights, -1, extents), (kind, owner, rights, 17, extents),
                    (kind, owner, rights, True, extents), (kind, owner, rights, "1", extents),
                    (kind, owner, rights, None, extents), (kind, owner, rights, length, None),
                    (kind, owner, rights, length, [(7, 1)]), (kind, owner, rights, length, (7, 1)),
                    (kind, owner, rights, length, ((7,),)), (kind, owner, rights, length, ((7, 1, 1),)),
                    (kind, owner, rights, length, ([7, 1],)), (kind, owner, rights, length, ((-1, 1),)),
                    (kind, owner, rights, length, ((40, 1),)), (kind, owner, rights, length, ((7, 0),)),
                    (kind, owner, rights, length, ((7, 41),)), (kind, owner, rights, length, ((True, 1),)),
                    (kind, owner, rights, length, ((7, True),)), (kind, owner, rights, length, ((7, "1"),)),
                    (kind, owner, rights, length, ((7, 10 ** 3000),)), 0, "", "-", True):
            self.no(slot_changed(DISK, 9, bad))
            self.no(slot_changed(DISK, 0, bad))

    def test_data_blocks(self):
        for value in (BLANK, ("", "x", ("a", 1), "word"), (("a", 0), ("a", 15), ("zzz", 1), ("a", 0)), ("zzzz",) * 4):
            for block in (5, 8, 11):
                self.yes(changed(DISK, block, value))
        for value in (("",) * 3, ("",) * 5, (), None, [""] * 4, "xxxx"):
            self.no(changed(DISK, 11, value))
        for item in (None, 0, True, " ", "abcde", "A", "a/b", ("a",), ("a", 16), ("a", -1), ("a", True), ("a", None), ("", 1),
                     ("abcd", 1), (1, "a"), ["a", 1], ("a", 1, 1), (), (("a", 1),), ("a", 10 ** 3000)):
            self.no(changed(DISK, 11, item, 2))

    def test_disks_with_faults_are_disks(self):
        for disk in some_spoiled(some_tables(165, 20), 166, 300):
            self.yes(disk)
            self.assertTrue(right_disk(disk))

    def test_any_values(self):
        right = 0
        for value in wrong_values([DISK, disk_for(BASE, 13), DISK[1:], slot_changed(DISK, 9, NODE)], 167, 5000):
            answer = right_disk(value)
            self.assertIs(is_disk(value), answer, repr(value)[:200])
            right += answer
        self.assertGreater(right, 100)


def with_extents(slot, *extents, length=None):
    kind, owner, rights, old, _ = slot
    return kind, owner, rights, old if length is None else length, extents


def with_map(signs):
    """Return a disk with the map that has these signs for its data blocks; some of them may be faults."""
    disk = disk_for(BASE, 5 + len(signs))
    return changed(disk, 0, "#####" + signs)


def file_table(*bodies):
    """Return a table with a file of each of some bodies in the root folder."""
    entries = tuple(("f" + "abcdefghijklmno"[at], at + 1) for at in range(len(bodies)))
    return ((0, "folder", "a", "rwrw", entries),) + tuple((at + 1, "file", "b", "rw--", body) for at, body in enumerate(bodies))


class BlocksOf(unittest.TestCase):
    def check(self, disk, number, blocks):
        self.assertTrue(right_disk(disk))
        self.assertEqual(unchanged(self, blocks_of, disk, number), blocks)

    def test_example(self):
        self.assertEqual(blocks_of(stored(BASE, 12), 1), [6])

    def test_nodes(self):
        self.check(DISK, 0, [5])
        self.check(DISK, 1, [6])
        self.check(DISK, 2, [])
        self.check(slot_changed(DISK, 15, NODE), 15, [7])

    def test_several_extents(self):
        self.check(slot_changed(DISK, 3, with_extents(FILE, (9, 2), (7, 1))), 3, [9, 10, 7])
        self.check(slot_changed(DISK, 3, with_extents(FILE, (7, 1), (8, 3), (11, 1))), 3, [7, 8, 9, 10, 11])

    def test_disks_with_faults(self):
        # Beyond the end of the disk, twice, of other nodes, and blocks that are no data blocks.
        self.check(slot_changed(DISK, 3, with_extents(FILE, (11, 3))), 3, [11, 12, 13])
        self.check(slot_changed(DISK, 3, with_extents(FILE, (39, 40))), 3, list(range(39, 79)))
        self.check(slot_changed(DISK, 3, with_extents(FILE, (6, 1), (6, 2), (6, 1))), 3, [6, 6, 7, 6])
        self.check(slot_changed(DISK, 3, with_extents(FILE, (0, 5))), 3, [0, 1, 2, 3, 4])
        self.check(slot_changed(DISK, 0, with_extents(FILE, (0, 40), length=16)), 0, list(range(40)))

    def test_wrong_numbers(self):
        for number in (-1, 16, 17, True, False, None, "1", 10 ** 3000, (1,), [0], ""):
            with self.assertRaises(InvalidNumber, msg=repr(number)[:80]):
                blocks_of(DISK, number)
        for number in range(3, 16):
            with self.assertRaises(NoNode):
                blocks_of(DISK, number)
        with self.assertRaises(NoNode):
            blocks_of(slot_changed(DISK, 0, None), 0)

    def test_order_of_errors(self):
        for number in (16, 15, None):
            with self.assertRaises(InvalidDisk):
                blocks_of(DISK[1:], number)


class Choose(unittest.TestCase):
    def check(self, signs, many, blocks):
        disk = with_map(signs)
        self.assertTrue(right_disk(disk))
        self.assertEqual(unchanged(self, choose, disk, many), blocks)
        self.assertEqual(plain_choose(disk[0], many), blocks)
        self.assertEqual(unchanged(self, count_free, disk), signs.count("."))

    def test_example(self):
        self.assertEqual(choose(stored(BASE, 12), 2), [7, 8])

    def test_first_row_that_is_long_enough(self):
        self.check("#.#..#....#", 1, [6])
        self.check("#.#..#....#", 2, [8, 9])
        self.check("#.#..#....#", 3, [11, 12, 13])
        self.check("#.#..#....#", 4, [11, 12, 13, 14])
        self.check("....#..#...", 2, [5, 6])
        self.check("..#...#....", 3, [8, 9, 10])

    def test_several_rows(self):
        self.check("#.#..#....#", 5, [11, 12, 13, 14, 6])
        self.check("#.#..#....#", 6, [11, 12, 13, 14, 8, 9])
        self.check("#.#..#....#", 7, [11, 12, 13, 14, 8, 9, 6])
        # The first one of the longest.
        self.check("..#...#...#", 4, [8, 9, 10, 5])
        self.check("..#...#...#", 5, [8, 9, 10, 5, 6])
        self.check("..#...#...#", 6, [8, 9, 10, 12, 13, 14])
        self.check("..#...#...#", 7, [8, 9, 10, 12, 13, 14, 5])
        self.check(".#.#.#.", 3, [5, 7, 9])
        self.check("..#..#..", 3, [5, 6, 8])

    def test_none_at_all(self):
        self.check("#######", 0, [])
        self.check("#######", 1, None)
        self.check("hhhhhhh", 0, [])
        self.check("hhhhhhh", 1, None)
        self.check("#.#..#h", 0, [])

    def test_all_that_are_free(self):
        self.check(".......", 7, [5, 6, 7, 8, 9, 10, 11])
        self.check(".......", 8, None)
        self.check("#.#..#....#", 8, None)
        self.check("." * 35, 35, list(range(5, 40)))
        self.check("." * 35, 36, None)
        self.check("." * 35, 40, None)

    def test_held_blocks_are_not_free(self):
        self.check("##.h.h...", 2, [11, 12])
        self.check("##.h.h...", 4, [11, 12, 13, 7])
        self.check("##.h.h...", 5, [11, 12, 13, 7, 9])
        self.check("##.h.h...", 6, None)

    def test_only_the_map_tells(self):
        # Blocks of nodes count as free, and only data blocks do.
        disk = changed(DISK, 0, "............")
        self.assertEqual(choose(disk, 3), [5, 6, 7])
        self.assertEqual(choose(disk, 7), [5, 6, 7, 8, 9, 10, 11])
        self.assertIsNone(choose(disk, 8))
        self.assertEqual(count_free(disk), 7)
        self.assertEqual(count_free(DISK), 5)
        self.assertEqual(count_free(changed(DISK, 0, "#" * 12)), 0)

    def test_any_maps(self):
        dice = random.Random(161)
        for _ in range(1500):
            signs = "".join(dice.choice(dice.choice(("#.", "..#", "#.h", ".h"))) for _ in range(dice.randrange(7, 36)))
            disk = with_map(signs)
            for many in {0, 1, 2, 3, 5, signs.count("."), signs.count(".") + 1, dice.randrange(41)}:
                self.assertEqual(choose(disk, many), plain_choose(disk[0], many), (signs, many))

    def test_wrong_arguments(self):
        for many in (-1, 41, 42, True, False, None, "1", (), [1], 10 ** 3000, ""):
            with self.assertRaises(InvalidMany, msg=repr(many)[:80]):
                choose(DISK, many)
            with self.assertRaises(InvalidDisk):
                choose(DISK[1:], many)
        for value in wrong_values([1, 40, 7], 173, 60):
            if not (type(value) is int and value in range(41)):
                with self.assertRaises(InvalidMany, msg=repr(value)[:100]):
                    choose(DISK, value)
            if not (type(value) is int and value in range(16)):
                with self.assertRaises(InvalidNumber, msg=repr(value)[:100]):
                    blocks_of(DISK, value)


class Stored(unittest.TestCase):
    def check(self, table, size):
        disk = unchanged(self, stored, table, size)
        self.assertEqual(disk, disk_for(table, size))
        self.assertTrue(right_disk(disk))
        self.assertEqual(plain_faults(disk), [])
        self.assertEqual(unchanged(self, loaded, disk), table)
        self.assertEqual(unchanged(self, count_pieces, disk),
                         [1 if number in [node[0] for node in table if node[4]] else 0 for number in range(16)])
        return disk

    def test_example(self):
        self.assertEqual(loaded(stored(BASE, 12)), BASE)
        self.assertEqual(stored(BASE, 12), (
            "#######.....",
            (("folder", "c", "rwrw", 2, ((5, 1),)), ("file", "c", "rwrw", 2, ((6, 1),)), ("folder", "c", "rwrw", 0, ()), None),
            (None,) * 4, (None,) * 4, (None,) * 4,
            (("a", 1), ("b", 2), "", ""), ("x", "y", "", ""), BLANK, BLANK, BLANK, BLANK, BLANK))

    def test_sizes(self):
        for size in range(12, 41):
            self.check(BASE, size)
            self.check(WIDE, size)
        self.check(table_of(((), ()), "d"), 12)

    def test_lengths_of_bodies(self):
        for many, blocks in ((0, 0), (1, 1), (3, 1), (4, 1), (5, 2), (8, 2), (9, 3), (12, 3), (13, 4), (15, 4), (16, 4)):
            disk = self.check(file_table(("x",) * many, ("y",)), 12)
            self.assertEqual(blocks_of(disk, 1), list(range(6, 6 + blocks)))
            self.assertEqual(blocks_of(disk, 2), [6 + blocks])
            self.assertEqual(disk[0], "#" * (7 + blocks) + "." * (5 - blocks))
        # Extents that follow each other without a gap are written as one.
        self.assertEqual(stored(file_table(("x",) * 16), 12)[1][1], ("file", "b", "rw--", 16, ((6, 4),)))

    def test_folders_of_all_lengths(self):
        for many in range(16):
            disk = self.check(file_table(*[()] * many), 12)
            self.assertEqual(len(blocks_of(disk, 0)), (many + 3) // 4)

    def test_all_nodes(self):
        self.check(file_table(*[("x",)] * 15), 40)
        self.check(file_table(*[("x",) * 8] * 15), 39)

    def test_no_room(self):
        self.check(file_table(("x",) * 16, ("y",) * 8), 12)
        self.check(file_table(("x",) * 16, ("y",) * 9), 13)
        for bodies, size in (((16, 9), 12), ((16, 16), 13), ((16, 16, 16, 16, 16, 16, 16, 16), 37), ((1,) * 7, 12)):
            with self.assertRaises(NoRoom):
                stored(file_table(*[("x",) * many for many in bodies]), size)

    def test_any_tables(self):
        for table in some_tables(162, 300):
            self.check(table, 40)

    def test_wrong_arguments(self):
        full = file_table(*[("x",) * 16] * 15)
        for size in (11, 41, 0, -12, True, None, "12", (12,), [12], 10 ** 3000, ""):
            with self.assertRaises(InvalidSize, msg=repr(size)[:80]):
                stored(BASE, size)
            with self.assertRaises(InvalidSize):
                stored(full, size)
            with self.assertRaises(InvalidTable):
                stored(BASE[1:], size)
        for value in wrong_values([BASE, WIDE, BASE[0]], 163, 600):
            if right_table(value):
                self.check(value, 40)
                continue
            with self.assertRaises(InvalidTable, msg=repr(value)[:100]):
                stored(value, 12)
        for value in wrong_values([12, 40, 25], 164, 60):
            if not (type(value) is int and value in range(12, 41)):
                with self.assertRaises(InvalidSize, msg=repr(value)[:100]):
                    stored(BASE, value)


class Loaded(unittest.TestCase):
    def test_any_blocks(self):
        dice = random.Random(168)
        for table in some_tables(169, 200):
            disk = random_disk(dice, table, 40, True)
            self.assertEqual(unchanged(self, loaded, disk), table)
            self.assertEqual(plain_loaded(disk), table)

    def test_further_items_and_blocks_mean_nothing(self):
        disk = changed(changed(DISK, 6, ("a", 0), 3), 11, ("x", ("b", 2), "y", ""))
        self.assertEqual(loaded(disk), BASE)
        self.assertEqual(loaded(slot_changed(changed(disk, 0, "#", 9), 1, with_extents(FILE, (6, 1), (9, 1)))), BASE)
        self.assertEqual(loaded(slot_changed(changed(disk, 0, "#", 7), 1, with_extents(FILE, (6, 1), (7, 1)))), BASE)
        self.assertEqual(loaded(changed(disk, 0, "#######h.hh.")), BASE)

    def test_unsound(self):
        for disk in (changed(DISK, 0, "#", 9), changed(DISK, 0, ".", 0), slot_changed(DISK, 2, None),
                     slot_changed(DISK, 3, FOLDER), changed(DISK, 6, "", 0), slot_changed(DISK, 0, None)):
            self.assertTrue(right_disk(disk))
            with self.assertRaises(Unsound):
                loaded(disk)
        for disk in some_spoiled(some_tables(170, 30, most=12), 171, 1500):
            if plain_faults(disk):
                with self.assertRaises(Unsound):
                    loaded(disk)
            else:
                table = loaded(disk)
                self.assertEqual(table, plain_loaded(disk))
                self.assertTrue(right_table(table))


class CountPieces(unittest.TestCase):
    def test_example(self):
        self.assertEqual(unchanged(self, count_pieces, stored(BASE, 12))[:3], [1, 1, 0])
        self.assertEqual(count_pieces(stored(BASE, 12)), [1, 1] + [0] * 14)

    def test_several_extents(self):
        disk = slot_changed(DISK, 15, with_extents(FILE, (9, 2), (7, 1), (11, 1)))
        self.assertEqual(unchanged(self, count_pieces, disk), [1, 1, 0] + [0] * 12 + [3])
        # It is told how many there are, though they could be fewer.
        self.assertEqual(count_pieces(slot_changed(DISK, 4, with_extents(FILE, (7, 1), (8, 1)))), [1, 1, 0, 0, 2] + [0] * 11)
        self.assertEqual(count_pieces(slot_changed(DISK, 2, with_extents(FOLDER, *[(0, 40)] * 50)))[2], 50)
        self.assertEqual(count_pieces(slot_changed(DISK, 0, None)), [0, 1] + [0] * 14)


class WrongDisks(unittest.TestCase):
    def test_wrong_disks(self):
        for disk in wrong_values([DISK, DISK[0], DISK[1], ROOT, disk_for(WIDE, 13)], 172, 600):
            calls = ((blocks_of, 0), (choose, 1), (count_free,), (loaded,), (count_pieces,))
            if right_disk(disk):
                self.assertEqual(len(count_pieces(disk)), 16)
                continue
            for function, *more in calls:
                with self.assertRaises(InvalidDisk, msg=repr(disk)[:100]):
                    function(disk, *more)
