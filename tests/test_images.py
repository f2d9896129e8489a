"""[0.3], [22.1], [22.2], [22.3]: images of disks."""

import random
import unittest

from helpers import unchanged, wrong_values
from plaindisks import changed, disk_for, right_disk, slot_changed, some_spoiled
from plaintables import some_tables
from plainwrites import plain_image, random_disk
from scripttrees.disks import stored
from scripttrees.errors import InvalidDisk, ParseError
from scripttrees.images import image, read_image, usage
from scripttrees.tables import table_of

BASE = table_of((("b",), ((("a",), ("x", "y")),)), "c")
DISK = stored(BASE, 12)
LINES = ["#######.....", "folder c rwrw 2 5+1 | file c rwrw 2 6+1 | folder c rwrw 0 | -", "- | - | - | -", "- | - | - | -",
         "- | - | - | -", "a>1 b>2 . .", "x y . .", ". . . .", ". . . .", ". . . .", ". . . .", ". . . ."]
WIDE = table_of((("d", "d/e"), ((("d/g", "h"), ("y",)), (("f",), ("x",) * 9))), "a")


def with_line(at, line):
    return LINES[:at] + [line] + LINES[at + 1:]


def plain_usage(disk):
    signs = ["m"] + ["t"] * 4 + list(disk[0][5:])
    for block in range(5, len(disk)):
        had = [number for number in range(16) for extents in [disk[1 + number // 4][number % 4]] if extents is not None
               and any(start <= block < start + count for start, count in extents[4])]
        if had:
            signs[block] = "ABCDEFGHIJKLMNOP"[min(had)]
    return "".join(signs)


class Image(unittest.TestCase):
    def check(self, disk, lines):
        self.assertTrue(right_disk(disk))
        self.assertEqual(plain_image(disk), lines)
        self.assertEqual(unchanged(self, image, disk), lines)
        self.assertEqual(unchanged(self, read_image, lines), disk)

    def test_example(self):
        self.assertEqual(image(stored(BASE, 12))[6], "x y . .")
        self.check(DISK, LINES)

    def test_maps(self):
        for signs in ("." * 12, "h" * 12, "#.h" * 4):
            self.check(changed(DISK, 0, signs), with_line(0, signs))

    def test_slots(self):
        for slot, text in (
                (None, "-"), (("file", "a", "----", 0, ()), "file a ---- 0"), (("folder", "d", "r--w", 16, ()), "folder d r--w 16"),
                (("file", "b", "-w-w", 9, ((0, 1),)), "file b -w-w 9 0+1"),
                (("file", "b", "rwr-", 10, ((39, 40), (5, 10), (15, 1))), "file b rwr- 10 39+40 5+10 15+1"),
                (("folder", "a", "rwrw", 1, ((7, 1), (7, 1))), "folder a rwrw 1 7+1 7+1")):
            self.check(slot_changed(DISK, 15, slot), with_line(4, "- | - | - | " + text))
            self.check(slot_changed(DISK, 5, slot), with_line(2, "- | " + text + " | - | -"))
            self.check(slot_changed(DISK, 8, slot), with_line(3, text + " | - | - | -"))

    def test_items(self):
        for item, text in (("", "."), ("x", "x"), ("word", "word"), (("a", 0), "a>0"), (("zzz", 15), "zzz>15"), (("b", 9), "b>9"),
                           ("file", "file")):
            self.check(changed(DISK, 9, item, 0), with_line(9, text + " . . ."))
            self.check(changed(DISK, 6, item, 3), with_line(6, "x y . " + text))
            self.check(changed(DISK, 11, (item,) * 4), with_line(11, " ".join([text] * 4)))

    def test_any_disks(self):
        dice = random.Random(221)
        disks = some_spoiled(some_tables(222, 60), 223, 1500)
        disks += [random_disk(dice, table, 40, True) for table in some_tables(224, 100)]
        for disk in disks:
            self.assertEqual(image(disk), plain_image(disk))
            self.assertEqual(read_image(image(disk)), disk)


class ReadImage(unittest.TestCase):
    def no(self, lines):
        with self.assertRaises(ParseError, msg=repr(lines)[:200]):
            read_image(lines)

    def test_no_list_of_strings(self):
        for lines in (None, "", "a", 0, True, (), tuple(LINES), [LINES], LINES[:11] + [None], LINES[:11] + [("x",) * 4],
                      LINES[:11] + [0], [tuple(LINES)], LINES[:11] + [LINES[11:]], "\n".join(LINES), DISK, list(DISK)):
            self.no(lines)

    def test_wrong_number_of_lines(self):
        self.no([])
        self.no(LINES[:11])
        self.no(["#" * 11] + LINES[1:11])
        self.no(LINES + [". . . ."])
        self.no(["#" * 41] + image(stored(BASE, 40))[1:] + [". . . ."])
        self.assertEqual(read_image(["#" * 13] + LINES[1:] + [". . . ."]), ("#" * 13,) + DISK[1:] + (("",) * 4,))

    def test_wrong_maps(self):
        for line in ("", "#" * 11, "#" * 13, "#######....x", "#######.... ", " #######....", "#######....H", "#######. ..."):
            self.no(with_line(0, line))

    def test_wrong_slots(self):
        good = "file a rw-- 9 7+1 9+12"
        self.assertEqual(read_image(with_line(2, "- | - | - | " + good))[2][3], ("file", "a", "rw--", 9, ((7, 1), (9, 12))))
        for text in ("", " ", "--", ".", "-1", "None", "file", "file a", "file a rw--", "file a rw-- ", "file a rw--  9",
                     "file  a rw-- 9", "file a rw-- 9 ", " file a rw-- 9", "file a rw-- 09", "file a rw-- 00", "file a rw-- 17",
                     "file a rw-- -1", "file a rw-- +9", "file a rw-- x", "file a rw-- 9.", "file a rw-- 100", "file e rw-- 9",
                     "file ab rw-- 9", "link a rw-- 9", "File a rw-- 9", "file a rw- 9", "file a wrwr 9", "a file rw-- 9",
                     "file a rw-- 9 7", "file a rw-- 9 7+", "file a rw-- 9 +1", "file a rw-- 9 7+01", "file a rw-- 9 07+1",
                     "file a rw-- 9 7+0", "file a rw-- 9 40+1", "file a rw-- 9 7+41", "file a rw-- 9 7 +1", "file a rw-- 9 7+1 ",
                     "file a rw-- 9  7+1", "file a rw-- 9 7+1+1", "file a rw-- 9 7-1", "file a rw-- 9 -7+1", "file a rw-- 9 7+1,9+1",
                     "file a rw-- 9 7+1 x", "file a rw-- 9 7++1", "file a rw-- \u0669", "file a rw-- 9 \u0667+1", "file a rw-- \u00b2",
                     "file a rw-- " + "9" * 5000, "file a rw-- 9 " + "0" * 5000 + "7+1", "file a rw-- 9 7+1 | -"):
            self.no(with_line(2, "- | - | - | " + text))
            self.no(with_line(2, text + " | - | - | -"))

    def test_wrong_table_blocks(self):
        for line in ("", "-", "- | - | -", "- | - | - | - | -", "- - - -", "-|-|-|-", "- | - | - | - ", " - | - | - | -",
                     "- |  - | - | -", "- | - | - || -", ". . . .", "- | - | - |", "| - | - | -", "- | | - | -"):
            for at in (1, 2, 4):
                self.no(with_line(at, line))

    def test_wrong_data_blocks(self):
        for line in ("", " ", ".", ". . .", ". . . . .", ". . . . ", " . . . .", ".  . . .", ". .  .", ". . . x ", ". . . abcde",
                     ". . . A", ". . . x.", ". . . 1", ". . . >", ". . . >1", ". . . a>", ". . . a>01", ". . . a>16", ". . . a>-1",
                     ". . . abcd>1", ". . . a>1>1", ". . . a > 1", ". . . a>x", ". . . a>1.", ". . . a>\u0661", ". . . -",
                     ". . . a>" + "1" * 5000, "- | - | - | -", ". . . \u00e9", ". . .\t.", ". . . .\n", "....", ". . . a/b"):
            for at in (5, 11):
                self.no(with_line(at, line))

    def test_almost_images(self):
        # One sign more, less, or other; what still is an image is another disk.
        dice = random.Random(225)
        good = image(random_disk(dice, WIDE, 20, True))
        still = 0
        for _ in range(6000):
            at = dice.randrange(len(good))
            line = good[at]
            where = dice.randrange(len(line) + 1)
            sign = dice.choice(" .-|>+0123456789abrwxy#h")
            turn = dice.randrange(3)
            line = line[:where] + (sign if turn else "") + line[where + (turn != 1):]
            lines = good[:at] + [line] + good[at + 1:]
            try:
                disk = read_image(lines)
            except ParseError:
                continue
            still += 1
            self.assertTrue(right_disk(disk))
            self.assertEqual(plain_image(disk), lines)
        self.assertTrue(300 < still < 4000, still)

    def test_any_values(self):
        right = 0
        for value in wrong_values([LINES, image(stored(WIDE, 13)), LINES[:12]], 226, 3000):
            try:
                disk = read_image(value)
            except ParseError:
                continue
            right += 1
            self.assertEqual(plain_image(disk), value)
        self.assertGreater(right, 50)

    def test_lists_are_not_kept(self):
        lines = list(LINES)
        disk = read_image(lines)
        lines[0] = "x"
        self.assertEqual(disk, DISK)


class Usage(unittest.TestCase):
    def check(self, disk, text):
        self.assertTrue(right_disk(disk))
        self.assertEqual(plain_usage(disk), text)
        self.assertEqual(unchanged(self, usage, disk), text)

    def test_example(self):
        self.check(stored(BASE, 12), "mttttAB.....")

    def test_signs_of_the_map(self):
        self.check(changed(DISK, 0, "...hhhh#h..#"), "mttttAB#h..#")

    def test_all_letters(self):
        disk = ("#" * 40,) + tuple(tuple(("file", "a", "rwrw", 0, ((39 - 2 * number, 1),)) for number in range(at, at + 4))
                                   for at in (0, 4, 8, 12)) + (("",) * 4,) * 35
        self.check(disk, "mtttt####P#O#N#M#L#K#J#I#H#G#F#E#D#C#B#A")

    def test_blocks_of_several_nodes(self):
        disk = slot_changed(slot_changed(DISK, 2, ("folder", "c", "rwrw", 0, ((5, 4),))), 1, ("file", "c", "rwrw", 0, ((8, 1), (6, 1))))
        self.check(disk, "mttttABCB...")
        self.check(slot_changed(disk, 0, None), "mttttCBCB...")

    def test_blocks_that_are_none(self):
        self.check(slot_changed(DISK, 1, ("file", "c", "rwrw", 0, ((0, 6), (10, 30), (39, 40)))), "mttttA#...BB")
        self.check(slot_changed(DISK, 0, ("file", "c", "rwrw", 0, ((0, 40),))), "mttttAAAAAAA")

    def test_any_disks(self):
        for disk in some_spoiled(some_tables(227, 60), 228, 1000):
            self.assertEqual(usage(disk), plain_usage(disk))
        self.assertEqual(usage(disk_for(WIDE, 14)), plain_usage(disk_for(WIDE, 14)))


class WrongDisks(unittest.TestCase):
    def test_wrong_disks(self):
        for value in wrong_values([DISK, DISK[0], DISK[1], stored(WIDE, 13)], 229, 800):
            for function in (image, usage):
                if right_disk(value):
                    self.assertEqual(len(function(value)), len(value))
                    continue
                with self.assertRaises(InvalidDisk, msg=repr(value)[:100]):
                    function(value)
