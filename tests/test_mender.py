"""[0.2] (e), [0.3], [21.1], [21.2]: the mender."""

import random
import unittest

from helpers import unchanged, wrong_values
from plaindisks import changed, disk_for, plain_faults, right_disk, slot_changed, some_spoiled, spoiled_disk
from plaintables import some_tables
from plainmending import plain_loss, plain_mended
from plainwrites import plain_loaded, random_disk, some_pairs, with_free
from scripttrees.crashes import found_disks
from scripttrees.disks import loaded, stored
from scripttrees.errors import InvalidDisk
from scripttrees.looker import faults, is_sound
from scripttrees.mender import loss, mended
from scripttrees.tables import table_of
from scripttrees.writing import brought_to

BASE = table_of((("b",), ((("a",), ("x", "y")),)), "c")
# The root folder has block 5, the file a is node 1 with block 6, and the folder b is node 2 without one.
DISK = disk_for(BASE, 12)
ROOT, FILE, FOLDER = DISK[1][:3]
WIDE = table_of((("d", "d/e"), ((("d/g", "h"), ("y",)), (("f",), ("x",) * 9))), "a")
BLANK = ("",) * 4
NEW_ROOT = ("folder", "a", "rwrw", 0, ())


def with_extents(slot, *extents, length=None):
    kind, owner, rights, old, _ = slot
    return kind, owner, rights, old if length is None else length, extents


def some_disk(signs, slots, blocks):
    """Return a disk with a map, slots by their numbers and blocks by their numbers."""
    rows = tuple(tuple(slots.get(at + more) for more in range(4)) for at in (0, 4, 8, 12))
    return (signs,) + rows + tuple(blocks.get(at, BLANK) for at in range(5, len(signs)))


def folder(length, *extents):
    return "folder", "c", "rwrw", length, extents


def file(length, *extents):
    return "file", "c", "rwrw", length, extents


class Mending(unittest.TestCase):
    def check(self, disk, after, lost):
        """See what a disk is mended to, and which slots lose something."""
        self.assertTrue(right_disk(disk))
        self.assertEqual(plain_mended(disk), after)
        self.assertEqual(unchanged(self, mended, disk), after)
        self.assertEqual(faults(after), [])
        self.assertEqual(plain_faults(after), [])
        self.assertEqual(mended(after), after)
        self.assertEqual(plain_loss(disk), lost)
        self.assertEqual(unchanged(self, loss, disk), lost)
        self.assertEqual(loss(after), [])

    def test_examples(self):
        self.assertIs(mended(stored(BASE, 12)) == stored(BASE, 12), True)
        self.assertEqual(loss(stored(BASE, 12)), [])

    def test_sound_disks(self):
        dice = random.Random(211)
        for table in [BASE, WIDE] + some_tables(212, 200):
            self.check(disk_for(table, 40), disk_for(table, 40), [])
            disk = with_free(random_disk(dice, table, 40, True))
            self.check(disk, disk, [])
        for disk, table in some_pairs(213, 200, sizes=(40,)):
            disk = with_free(brought_to(disk, table))
            self.check(disk, disk, [])

    def test_maps(self):
        for signs in ("#" * 12, "." * 12, "h" * 12, "#######h.h#h", ".#h#.#h#.#h#"):
            self.check(changed(DISK, 0, signs), DISK, [])

    def test_further_items_stay(self):
        disk = changed(changed(DISK, 6, ("x", "y", "q", ("a", 1))), 11, ("x", ("a", 1), "", "y"))
        self.check(disk, disk, [])

    def test_no_root(self):
        bare = changed(slot_changed(slot_changed(slot_changed(DISK, 0, NEW_ROOT), 1, None), 2, None), 0, "#####.......")
        self.check(slot_changed(DISK, 0, None), bare, [0, 1, 2])
        self.check(slot_changed(DISK, 0, ("file",) + ROOT[1:]), bare, [0, 1, 2])
        self.check(slot_changed(DISK, 0, ("file", "a", "rwrw", 0, ())), bare, [0, 1, 2])
        self.check(slot_changed(bare, 0, None), bare, [0])
        self.check(slot_changed(bare, 0, ("file", "d", "----", 16, ((0, 40),))), bare, [0])
        self.check(slot_changed(bare, 0, ("folder", "d", "----", 0, ())), slot_changed(bare, 0, ("folder", "d", "----", 0, ())), [])
        self.check(("h" * 12,) + ((None,) * 4,) * 4 + (BLANK,) * 7, some_disk("#####.......", {0: NEW_ROOT}, {}), [0])

    def test_blocks_beyond_the_end_of_the_disk(self):
        disk = changed(DISK, 11, ("p", "q", "r", "s"))
        self.check(slot_changed(disk, 1, file(8, (11, 2))),
                   changed(slot_changed(disk, 1, file(4, (11, 1))), 0, "######.....#"), [1])
        self.check(slot_changed(disk, 1, file(3, (11, 2))),
                   changed(slot_changed(disk, 1, file(3, (11, 1))), 0, "######.....#"), [])
        self.check(slot_changed(disk, 1, file(2, (12, 1), (6, 1))), changed(slot_changed(disk, 1, file(0)), 0, "######......"), [1])
        # What comes behind a block that is none does not count.
        self.check(slot_changed(disk, 1, file(6, (6, 1), (39, 1), (11, 1))), changed(disk, 1, (ROOT, file(2, (6, 1)), FOLDER, None)), [1])

    def test_blocks_that_are_no_data_blocks(self):
        for block in range(5):
            self.check(slot_changed(DISK, 1, file(2, (6, 1), (block, 1))), DISK, [])
            self.check(slot_changed(DISK, 1, file(2, (block, 1), (6, 1))),
                       changed(slot_changed(DISK, 1, file(0)), 0, "######......"), [1])

    def test_blocks_twice_at_one_node(self):
        disk = changed(DISK, 6, ("p", "q", "r", "s"))
        self.check(slot_changed(disk, 1, file(7, (6, 1), (6, 1))), slot_changed(disk, 1, file(4, (6, 1))), [1])
        self.check(slot_changed(disk, 1, file(9, (6, 2), (7, 1))), slot_changed(disk, 1, file(4, (6, 1))), [1])
        full = changed(disk, 7, ("t", "u", "v", "w"))
        self.check(slot_changed(full, 1, file(9, (6, 2), (7, 1))),
                   changed(slot_changed(full, 1, file(8, (6, 2))), 0, "########...."), [1])

    def test_blocks_of_two_nodes(self):
        # The earlier node keeps them.
        disk = some_disk("########....", {0: folder(2, (5, 1)), 1: file(5, (6, 2)), 2: file(2, (7, 1))},
                         {5: (("a", 1), ("b", 2), "", ""), 6: ("p", "q", "r", "s"), 7: ("t", "u", "", "")})
        self.check(disk, slot_changed(disk, 2, file(0)), [2])
        # Unless it does not need them.
        self.check(slot_changed(disk, 1, file(4, (6, 2))),
                   some_disk("########....", {0: folder(2, (5, 1)), 1: file(4, (6, 1)), 2: file(2, (7, 1))}, dict(enumerate(disk))), [])
        # What an earlier node has before it keeps nothing of it is free for a later one, too.
        self.check(slot_changed(disk, 1, folder(1, (7, 1))), changed(slot_changed(disk, 1, folder(0)), 0, "######.#...."), [1])
        # The root folder comes first, a block of its own is taken from all others.
        self.check(slot_changed(DISK, 1, file(2, (5, 1))), changed(slot_changed(DISK, 1, file(0)), 0, "######......"), [1])
        # A node that is not reached keeps blocks from later ones, as only then it is taken away.
        lone = some_disk("#######.....", {0: folder(1, (5, 1)), 1: file(1, (6, 1)), 2: file(1, (6, 1))},
                         {5: (("b", 2), "", "", ""), 6: ("p", "", "", "")})
        self.check(lone, some_disk("######......", {0: folder(1, (5, 1)), 2: file(0)}, dict(enumerate(lone))), [1, 2])

    def test_lengths_beyond_the_items(self):
        disk = changed(DISK, 6, ("p", "q", "r", "s"))
        for length in (5, 6, 16):
            self.check(slot_changed(disk, 1, file(length, (6, 1))), slot_changed(disk, 1, file(4, (6, 1))), [1])
        self.check(slot_changed(disk, 2, folder(16)), slot_changed(disk, 2, folder(0)), [2])
        self.check(slot_changed(disk, 1, file(16)), changed(slot_changed(disk, 1, file(0)), 0, "######......"), [1])

    def test_blocks_that_are_not_needed(self):
        self.check(changed(slot_changed(DISK, 1, file(2, (6, 4))), 0, "##########.."), DISK, [])
        self.check(changed(slot_changed(DISK, 2, folder(0, (9, 1))), 0, "#######..#.."), DISK, [])
        # An emptied file gives its block up, and keeps the items on it.
        self.check(slot_changed(DISK, 1, file(0, (6, 1))), changed(slot_changed(DISK, 1, file(0)), 0, "######......"), [])

    def test_extents_are_written_as_one(self):
        disk = changed(changed(changed(DISK, 6, ("p",) * 4), 7, ("q",) * 4), 0, "########....")
        self.check(slot_changed(disk, 1, file(8, (6, 1), (7, 1))), slot_changed(disk, 1, file(8, (6, 2))), [])
        self.check(slot_changed(disk, 1, file(8, (7, 1), (6, 1))), slot_changed(disk, 1, file(8, (7, 1), (6, 1))), [])

    def test_items_of_the_other_kind(self):
        disk = changed(DISK, 6, ("p", "q", ("a", 1), "s"))
        self.check(slot_changed(disk, 1, file(4, (6, 1))), slot_changed(disk, 1, file(2, (6, 1))), [1])
        self.check(changed(slot_changed(disk, 1, file(4, (6, 1))), 6, ("", "q", "r", "s")),
                   changed(changed(slot_changed(disk, 1, file(0)), 6, ("", "q", "r", "s")), 0, "######......"), [1])
        # Words in a folder: the entries before them are left, and nothing is written.
        after = changed(slot_changed(slot_changed(DISK, 0, folder(1, (5, 1))), 2, None), 5, (("a", 1), "x", ("b", 2), ""))
        self.check(changed(slot_changed(DISK, 0, folder(3, (5, 1))), 5, after[5]), after, [0, 2])
        self.check(changed(DISK, 5, ("x", ("b", 2), "", "")), some_disk("#####.......", {0: folder(0)}, {
            5: ("x", ("b", 2), "", ""), 6: ("x", "y", "", "")}), [0, 1, 2])

    def test_entries_that_do_not_ascend(self):
        for entries, left in (((("b", 2), ("a", 1)), {2: FOLDER}), ((("a", 1), ("a", 2)), {1: FILE})):
            block = entries + ("", "")
            after = some_disk("######......" if 2 in left else "#######.....", {0: folder(1, (5, 1)), **left}, {
                5: block, 6: ("x", "y", "", "")})
            self.check(changed(DISK, 5, block), after, [0, 1 if 2 in left else 2])

    def test_entries_to_nothing_and_to_the_root_folder(self):
        # The entries that are left move up, and all further items become "".
        for number in (0, 9):
            disk = changed(DISK, 5, (("a", number), ("b", 2), "q", ("c", 1)))
            self.check(disk, some_disk("######......", {0: folder(1, (5, 1)), 2: FOLDER}, {
                5: (("b", 2), "", "", ""), 6: ("x", "y", "", "")}), [0, 1])
            disk = changed(DISK, 5, (("a", number), ("b", number), "q", ("c", 1)))
            self.check(disk, some_disk("#####.......", {0: folder(0)}, {6: ("x", "y", "", "")}), [0, 1, 2])

    def test_blocks_of_entries_that_are_left(self):
        names = [("abcdefghi"[at], 9 if at in (1, 3, 4, 7) else 1) for at in range(9)]
        disk = some_disk("#########...", {0: folder(9, (5, 2), (8, 1)), 1: file(1, (7, 1))}, {
            5: tuple(names[:4]), 6: tuple(names[4:8]), 7: ("x", "", "", ""), 8: (names[8], "q", "", ("a", 1)), 9: ("q",) * 4})
        left = [name for name in names if name[1] == 1]
        after = some_disk("########....", {0: folder(5, (5, 2)), 1: file(1, (7, 1))}, {
            5: tuple(left[:4]), 6: (left[4], "", "", ""), 7: ("x", "", "", ""), 9: ("q",) * 4})
        self.check(disk, after, [0])
        # Where no entry is taken out, nothing is written.
        full = some_disk("#########...", {0: folder(9, (5, 2), (8, 1)), 1: file(1, (7, 1))}, {
            5: tuple((name, 1) for name, _ in names[:4]), 6: tuple((name, 1) for name, _ in names[4:8]), 7: ("x", "", "", ""),
            8: (("i", 1), "q", "", ("a", 1))})
        self.check(full, full, [])

    def test_entries_to_one_folder(self):
        # In one folder the first one is kept.
        disk = changed(slot_changed(DISK, 0, folder(3, (5, 1))), 5, (("a", 2), ("b", 2), ("c", 1), ""))
        self.check(disk, changed(slot_changed(DISK, 0, folder(2, (5, 1))), 5, (("a", 2), ("c", 1), "", "")), [0])
        # The folder that is nearer to the root folder keeps its entry, though it has a greater number.
        disk = some_disk("#########...", {0: folder(1, (5, 1)), 1: folder(1, (6, 1)), 2: folder(1, (7, 1)), 3: folder(1, (8, 1)), 4: folder(0)}, {
            5: (("a", 3), "", "", ""), 6: (("m", 4), "", "", ""), 7: (("b", 4), "", "", ""), 8: (("c", 2), "", "", "")})
        after = some_disk("######.##...", {0: folder(1, (5, 1)), 2: folder(1, (7, 1)), 3: folder(1, (8, 1)), 4: folder(0)}, dict(enumerate(disk)))
        self.check(disk, after, [1])
        disk = changed(slot_changed(disk, 0, folder(2, (5, 1))), 5, (("a", 3), ("z", 4), "", ""))
        after = some_disk("######.##...", {0: folder(2, (5, 1)), 2: folder(0), 3: folder(1, (8, 1)), 4: folder(0)}, dict(enumerate(disk)))
        after = changed(changed(after, 0, "######..#..."), 7, BLANK)
        self.check(disk, after, [1, 2])

    def test_equally_near_folders(self):
        # 5 is met before 1, so that its entry to 2 is kept.
        disk = some_disk("########....", {0: folder(2, (5, 1)), 5: folder(1, (6, 1)), 1: folder(1, (7, 1)), 2: folder(0)}, {
            5: (("a", 5), ("b", 1), "", ""), 6: (("q", 2), "", "", ""), 7: (("p", 2), "", "", "")})
        after = some_disk("#######.....", {0: folder(2, (5, 1)), 5: folder(1, (6, 1)), 1: folder(0), 2: folder(0)}, {
            5: (("a", 5), ("b", 1), "", ""), 6: (("q", 2), "", "", "")})
        self.check(disk, after, [1])
        # One level below, too: by the order of the folders that they are in.
        disk = some_disk("##########..", {0: folder(2, (5, 1)), 5: folder(1, (6, 1)), 1: folder(1, (7, 1)), 9: folder(1, (8, 1)),
                                          2: folder(1, (9, 1)), 3: folder(0)}, {
            5: (("a", 5), ("b", 1), "", ""), 6: (("z", 9), "", "", ""), 7: (("c", 2), "", "", ""), 8: (("q", 3), "", "", ""),
            9: (("q", 3), "", "", "")})
        after = changed(changed(slot_changed(disk, 2, folder(0)), 9, BLANK), 0, "#########...")
        self.check(disk, after, [2])

    def test_rings_of_folders(self):
        # A ring that is not reached goes.
        ring = some_disk("########....", {0: folder(0), 1: folder(1, (6, 1)), 2: folder(1, (7, 1))}, {
            6: (("a", 2), "", "", ""), 7: (("a", 1), "", "", "")})
        self.check(ring, some_disk("#####.......", {0: folder(0)}, dict(enumerate(ring))), [1, 2])
        # One that is reached is opened.
        ring = some_disk("########....", {0: folder(1, (5, 1)), 1: folder(1, (6, 1)), 2: folder(1, (7, 1))}, {
            5: (("r", 2), "", "", ""), 6: (("a", 2), "", "", ""), 7: (("a", 1), "", "", "")})
        self.check(ring, some_disk("######.#....", {0: folder(1, (5, 1)), 1: folder(0), 2: folder(1, (7, 1))}, {
            5: (("r", 2), "", "", ""), 7: (("a", 1), "", "", "")}), [1])
        # A folder in itself.
        self.check(some_disk("#######.....", {0: folder(1, (5, 1)), 1: folder(2, (6, 1))}, {
            5: (("r", 1), "", "", ""), 6: (("a", 1), ("b", 0), "", "")}),
            some_disk("######......", {0: folder(1, (5, 1)), 1: folder(0)}, {5: (("r", 1), "", "", "")}), [1])

    def test_files_to_which_several_entries_lead(self):
        disk = changed(slot_changed(DISK, 0, folder(4, (5, 1))), 5, (("a", 1), ("b", 2), ("c", 1), ("d", 1)))
        self.check(disk, disk, [])
        # They stay where others go.
        self.check(changed(disk, 5, (("a", 1), ("b", 0), ("c", 1), ("d", 1))),
                   changed(slot_changed(slot_changed(disk, 0, folder(3, (5, 1))), 2, None), 5, (("a", 1), ("c", 1), ("d", 1), "")), [0, 2])

    def test_nodes_that_are_not_reached(self):
        disk = slot_changed(changed(DISK, 0, "########...."), 15, file(1, (7, 1)))
        disk = changed(disk, 7, ("q", "", "", ""))
        self.check(disk, changed(DISK, 7, ("q", "", "", "")), [15])
        self.check(slot_changed(DISK, 0, folder(1, (5, 1))), slot_changed(slot_changed(DISK, 0, folder(1, (5, 1))), 2, None), [2])
        # What only a folder that goes leads to goes, too.
        disk = slot_changed(slot_changed(changed(DISK, 7, (("q", 1), "", "", "")), 2, folder(1, (7, 1))), 0, folder(0))
        self.check(disk, some_disk("#####.......", {0: folder(0)}, dict(enumerate(disk))), [1, 2])

    def test_several_steps_at_once(self):
        disk = some_disk("h#..........", {0: ("file", "d", "r---", 3, ((9, 1),)), 1: file(16, (9, 40)), 4: folder(5, (5, 2), (39, 1))}, {
            5: (("a", 1), ("b", 4), ("c", 0), "x"), 9: ("p", ("q", 1), "", "")})
        self.check(disk, some_disk("#####.......", {0: NEW_ROOT}, dict(enumerate(disk))), [0, 1, 4])
        disk = slot_changed(disk, 0, folder(5, (5, 2), (6, 1)))
        # The root folder keeps its first block and the entries a and b, so that 4 has none.
        self.check(disk, some_disk("######...#..", {0: folder(2, (5, 1)), 1: file(1, (9, 1)), 4: folder(0)}, {
            5: (("a", 1), ("b", 4), "", ""), 9: disk[9]}), [0, 1, 4])

    def test_any_disks(self):
        steps = {many: 0 for many in range(8)}
        for disk in some_spoiled(some_tables(214, 80, most=13), 215, 5000):
            after = plain_mended(disk)
            self.assertEqual(mended(disk), after, disk)
            self.assertEqual(plain_faults(after), [])
            self.assertEqual(mended(after), after)
            lost = plain_loss(disk)
            self.assertEqual(loss(disk), lost)
            steps[min(len(lost), 7)] += 1
            if not plain_faults(disk):
                self.assertEqual(plain_loaded(after), plain_loaded(disk))
                self.assertEqual(lost, [])
        self.assertTrue(all(many > 20 for many in steps.values()), steps)

    def test_wild_disks(self):
        # All kinds of items and slots anywhere.
        dice = random.Random(216)
        items = ["", "x", "y"] + [(name, number) for name in "abc" for number in range(8)]
        for _ in range(3000):
            slots = {number: (dice.choice(("folder", "folder", "file")), "a", "rwrw", dice.choice((0, 1, 2, 3, 5, 9)),
                              tuple((dice.choice((4, 5, 6, 7, 8, 9, 10, 11, 12)), dice.choice((1, 1, 1, 2)))
                                    for _ in range(dice.randrange(4)))) for number in range(8) if dice.random() < 0.8}
            blocks = {}
            for block in range(5, 12):
                row = [dice.choice(items) for _ in range(4)]
                if dice.random() < 0.7:
                    entries = sorted((item for item in row if type(item) is tuple), key=lambda item: item[0])
                    row = (entries + [""] * 4)[:4]
                blocks[block] = tuple(row)
            disk = some_disk("".join(dice.choice("#.h") for _ in range(12)), slots, blocks)
            after = plain_mended(disk)
            self.assertEqual(mended(disk), after)
            self.assertEqual(faults(after), [])
            self.assertEqual(mended(after), after)
            self.assertEqual(loss(disk), plain_loss(disk))

    def test_largest_slots(self):
        full = ("file", "a", "rwrw", 16, ((0, 40),) * 40)
        disk = ("#" * 40,) + ((full,) * 4,) * 4 + (("x",) * 4,) * 35
        self.check(disk, ("#" * 5 + "." * 35, (NEW_ROOT, None, None, None)) + ((None,) * 4,) * 3 + (("x",) * 4,) * 35, list(range(16)))

    def test_disks_behind_crashes(self):
        broken = 0
        for disk, table in some_pairs(217, 150):
            rows = [disk]
            try:
                rows = found_disks(disk, [table], "names")
            except ValueError:
                continue
            for found in rows:
                broken += not is_sound(found)
                self.assertEqual(mended(found), plain_mended(found))
                self.assertTrue(is_sound(mended(found)))
                loaded(mended(found))
        self.assertGreater(broken, 20)


class WrongDisks(unittest.TestCase):
    def test_wrong_disks(self):
        for value in wrong_values([DISK, DISK[0], DISK[1], ROOT, disk_for(WIDE, 13)], 218, 800):
            for function in (mended, loss):
                if right_disk(value):
                    self.assertEqual(mended(value), plain_mended(value))
                    continue
                with self.assertRaises(InvalidDisk, msg=repr(value)[:100]):
                    function(value)

    def test_spoiled_many_times(self):
        dice = random.Random(219)
        disk = disk_for(WIDE, 25)
        for _ in range(400):
            disk = spoiled_disk(disk, dice)
            self.assertEqual(mended(disk), plain_mended(disk))
            self.assertEqual(plain_faults(mended(disk)), [])
