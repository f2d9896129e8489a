"""[0.2] (e), [0.3], [17.1], [17.2], [17.3]: writes."""

import random
import unittest

from helpers import unchanged, wrong_values
from plaindisks import changed, disk_for, plain_faults, right_disk, slot_changed
from plaintables import right_table
from plainwrites import plain_brought, plain_loaded, plain_writes, some_pairs, with_free
from scripttrees.acting import act
from scripttrees.disks import blocks_of, loaded, stored
from scripttrees.errors import InvalidDisk, InvalidTable, InvalidWrites, NoRoom, Unsound
from scripttrees.tables import table_of
from scripttrees.writing import apply_writes, brought_to, flushed, writes_for

BASE = table_of((("b",), ((("a",), ("x", "y")),)), "c")
DISK = stored(BASE, 12)
BLANK = ("",) * 4


def table(*nodes):
    """Return a table: for each node its number, and words for a file or a dict of entries for a folder."""
    rows = []
    for number, body in nodes:
        kind = "folder" if isinstance(body, dict) else "file"
        rows.append((number, kind, "c", "rwrw", tuple(sorted(body.items())) if kind == "folder" else tuple(body)))
    return tuple(rows)


def other_body(old, number, *body):
    return tuple(node[:4] + (body,) if node[0] == number else node for node in old)


def slot(kind, length, *extents):
    return kind, "c", "rwrw", length, extents


class Writing(unittest.TestCase):
    def check(self, disk, after, contents, names):
        """See that these are the writes, and what they lead to; return the disk that they lead to."""
        self.assertTrue(right_disk(disk))
        self.assertTrue(right_table(after), after)
        self.assertEqual(plain_faults(disk), [])
        self.assertEqual(unchanged(self, writes_for, disk, after), (contents, names))
        self.assertEqual(plain_writes(disk, after), (contents, names))
        found = unchanged(self, brought_to, disk, after)
        self.assertEqual(found, plain_brought(disk, after))
        self.assertEqual(apply_writes(disk, contents + names), found)
        self.assertEqual(plain_faults(found), [])
        self.assertEqual(loaded(found), after)
        return found

    def full(self, disk, after):
        for function in (writes_for, brought_to):
            with self.assertRaises(NoRoom):
                function(disk, after)
        self.assertIsNone(plain_writes(disk, after))

    def test_example(self):
        self.assertEqual(writes_for(stored(BASE, 12), BASE), ([], []))

    def test_nothing_to_write(self):
        self.check(DISK, BASE, [], [])
        # Whatever is free or held, or stands where nothing is.
        self.check(changed(changed(DISK, 0, "#######.h.hh"), 9, ("q", ("a", 1), "", "")), BASE, [], [])
        self.check(changed(DISK, 6, ("a", 1), 3), BASE, [], [])

    def test_words_in_place(self):
        self.check(DISK, other_body(BASE, 1, "x", "q"), [(6, ("x", "q", "", ""))], [])
        self.check(DISK, other_body(BASE, 1, "q", "y"), [(6, ("q", "y", "", ""))], [])

    def test_fewer_words(self):
        names = [(1, (DISK[1][0], slot("file", 1, (6, 1)), DISK[1][2], None))]
        # Further items stay as they were.
        found = self.check(DISK, other_body(BASE, 1, "x"), [], names)
        self.assertEqual(found[6], ("x", "y", "", ""))
        found = self.check(DISK, other_body(BASE, 1, "q"), [(6, ("q", "y", "", ""))], names)
        back = self.check(found, other_body(BASE, 1, "q", "y"), [], [(1, DISK[1])])
        self.check(back, other_body(BASE, 1, "q", "y", "z"), [(6, ("q", "y", "z", ""))],
                   [(1, (DISK[1][0], slot("file", 3, (6, 1)), DISK[1][2], None))])

    def test_no_words_left(self):
        found = self.check(DISK, other_body(BASE, 1), [], [
            (0, "######h....."), (1, (DISK[1][0], slot("file", 0), DISK[1][2], None))])
        self.assertEqual(found[6], ("x", "y", "", ""))
        # The block is held, so that another one is chosen; its old items stay behind the body.
        found = self.check(found, other_body(BASE, 1, "q"), [(7, ("q", "", "", ""))], [
            (0, "######h#...."), (1, (DISK[1][0], slot("file", 1, (7, 1)), DISK[1][2], None))])
        found = self.check(flushed(changed(found, 0, "######.#....")), other_body(BASE, 1, "q", "r", "s", "t", "u"), [
            (6, ("u", "y", "", "")), (7, ("q", "r", "s", "t"))], [
            (0, "########...."), (1, (DISK[1][0], slot("file", 5, (7, 1), (6, 1)), DISK[1][2], None))])
        self.assertEqual(blocks_of(found, 1), [7, 6])

    def test_more_blocks(self):
        found = self.check(DISK, other_body(BASE, 1, *"xyxyx"), [(6, ("x", "y", "x", "y")), (7, ("x", "", "", ""))], [
            (0, "########...."), (1, (DISK[1][0], slot("file", 5, (6, 2)), DISK[1][2], None))])
        found = self.check(found, other_body(BASE, 1, *"xyxyxqqqqqqqqqqq"),
                           [(7, ("x", "q", "q", "q")), (8, ("q",) * 4), (9, ("q",) * 4)], [
            (0, "##########.."), (1, (DISK[1][0], slot("file", 16, (6, 4)), DISK[1][2], None))])
        # The first ones are kept.
        self.check(found, other_body(BASE, 1, *"xyxyx"), [], [
            (0, "########hh.."), (1, (DISK[1][0], slot("file", 5, (6, 2)), DISK[1][2], None))])

    def test_rows_of_free_blocks(self):
        disk = changed(DISK, 0, "#######.h...")
        after = other_body(BASE, 1, *("x" * 8))
        self.check(disk, after, [(6, ("x",) * 4), (7, ("x",) * 4)], [
            (0, "########h..."), (1, (DISK[1][0], slot("file", 8, (6, 2)), DISK[1][2], None))])
        # One row for both further blocks, not the neighbour of the block that the file has.
        after = other_body(BASE, 1, *("x" * 12))
        self.check(disk, after, [(6, ("x",) * 4), (9, ("x",) * 4), (10, ("x",) * 4)], [
            (0, "#######.h##."), (1, (DISK[1][0], slot("file", 12, (6, 1), (9, 2)), DISK[1][2], None))])
        after = other_body(BASE, 1, *("x" * 16))
        self.check(changed(DISK, 0, "#######.h..h"), after,
                   [(6, ("x",) * 4), (7, ("x",) * 4), (9, ("x",) * 4), (10, ("x",) * 4)], [
            (0, "########h##h"), (1, (DISK[1][0], slot("file", 16, (6, 1), (9, 2), (7, 1)), DISK[1][2], None))])

    def test_each_node_chooses_in_turn(self):
        after = table((0, {"a": 1, "b": 2}), (1, "x" * 5), (2, {"f": 3}), (3, "y" * 5))
        self.check(changed(DISK, 0, "#######.h..."), table((0, {"a": 1, "b": 2}), (1, "x" * 9), (2, {"f": 3}), (3, "y")), [
            (6, ("x",) * 4), (9, ("x",) * 4), (10, ("x", "", "", "")), (11, ("y", "", "", ""))], [
            (0, "########h###"), (1, (slot("folder", 2, (5, 1)), slot("file", 9, (6, 1), (9, 2)), slot("folder", 1, (7, 1)),
                                      slot("file", 1, (11, 1)))), (7, (("f", 3), "", "", ""))])
        self.full(changed(DISK, 0, "#######.h.h."), after)
        self.check(changed(DISK, 0, "#######.h..."), after, [
            (6, ("x",) * 4), (7, ("x", "", "", "")), (10, ("y",) * 4), (11, ("y", "", "", ""))], [
            (0, "########h###"), (1, (slot("folder", 2, (5, 1)), slot("file", 5, (6, 2)), slot("folder", 1, (9, 1)),
                                      slot("file", 5, (10, 2)))), (9, (("f", 3), "", "", ""))])

    def test_nodes_that_go(self):
        self.check(DISK, table((0, {"b": 2}), (2, {})), [], [
            (0, "######h....."), (1, (slot("folder", 1, (5, 1)), None, slot("folder", 0), None)),
            (5, (("b", 2), ("b", 2), "", ""))])
        self.check(DISK, table((0, {"a": 1}), (1, "xy")), [], [
            (1, (slot("folder", 1, (5, 1)), slot("file", 2, (6, 1)), None, None))])
        self.check(DISK, table((0, {})), [], [(0, "#####hh....."), (1, (slot("folder", 0), None, None, None))])

    def test_nodes_that_come(self):
        after = table((0, {"a": 1, "b": 2, "c": 15}), (1, "xy"), (2, {}), (15, "pq"))
        found = self.check(DISK, after, [(7, ("p", "q", "", ""))], [
            (0, "########...."), (1, (slot("folder", 3, (5, 1)),) + DISK[1][1:]),
            (4, (None, None, None, slot("file", 2, (7, 1)))), (5, (("a", 1), ("b", 2), ("c", 15), ""))])
        self.assertEqual(found[4][3], slot("file", 2, (7, 1)))

    def test_other_kinds(self):
        # A folder becomes a file, and a file a folder; the file's block is given back, and it gets another one.
        after = table((0, {"a": 1, "b": 2}), (1, {"q": 3}), (2, "pq"), (3, {}))
        self.check(DISK, after, [(8, ("p", "q", "", ""))], [
            (0, "######h##..."), (1, (slot("folder", 2, (5, 1)), slot("folder", 1, (7, 1)), slot("file", 2, (8, 1)),
                                      slot("folder", 0))), (7, (("q", 3), "", "", ""))])
        # Also if the body is the same.
        empty = table((0, {"a": 1, "b": 2}), (1, ()), (2, {}))
        both = table((0, {"a": 1, "b": 2}), (1, {}), (2, ()))
        disk = slot_changed(changed(stored(empty, 12), 0, "######.#...."), 1, slot("file", 0, (7, 1)))
        self.check(disk, both, [], [(0, "######.h...."), (1, (disk[1][0], slot("folder", 0), slot("file", 0), None))])
        self.check(disk, empty, [], [])

    def test_blocks_that_are_not_needed_stay_with_the_same_body(self):
        disk = slot_changed(changed(DISK, 0, "#######.##.."), 1, slot("file", 2, (6, 1), (8, 2)))
        self.check(disk, BASE, [], [])
        self.check(disk, tuple(node[:2] + ("d", "r---") + node[4:] for node in BASE), [], [
            (1, (("folder", "d", "r---", 2, ((5, 1),)), ("file", "d", "r---", 2, ((6, 1), (8, 2))),
                 ("folder", "d", "r---", 0, ()), None))])
        # Where the body is another one, only those stay that it needs.
        self.check(disk, other_body(BASE, 1, "x", "q"), [(6, ("x", "q", "", ""))], [
            (0, "#######.hh.."), (1, (disk[1][0], slot("file", 2, (6, 1)), disk[1][2], None))])
        self.check(disk, other_body(BASE, 1, *"xyxyq"), [(6, ("x", "y", "x", "y")), (8, ("q", "", "", ""))], [
            (0, "#######.#h.."), (1, (disk[1][0], slot("file", 5, (6, 1), (8, 1)), disk[1][2], None))])

    def test_extents_without_a_gap_are_written_as_one(self):
        disk = slot_changed(changed(DISK, 0, "########...."), 1, slot("file", 5, (6, 1), (7, 1)))
        disk = changed(changed(disk, 6, ("x",) * 4), 7, ("x", "", "", ""))
        self.check(disk, other_body(BASE, 1, *"xxxxq"), [(7, ("q", "", "", ""))], [
            (1, (disk[1][0], slot("file", 5, (6, 2)), disk[1][2], None))])
        self.check(disk, other_body(BASE, 1, *("x" * 9)), [(7, ("x",) * 4), (8, ("x", "", "", ""))], [
            (0, "#########..."), (1, (disk[1][0], slot("file", 9, (6, 3)), disk[1][2], None))])

    def test_only_owner_or_rights(self):
        for owner, rights in (("a", "rwrw"), ("c", "----"), ("b", "r--w")):
            after = (BASE[0], (1, "file", owner, rights, ("x", "y")), BASE[2])
            self.check(DISK, after, [], [(1, (DISK[1][0], ("file", owner, rights, 2, ((6, 1),)), DISK[1][2], None))])

    def test_what_one_gives_back_no_other_gets(self):
        # Held blocks are not free, so that two blocks are too few here.
        disk = stored(table((0, {"a": 1, "b": 2}), (1, "x" * 16), (2, "y")), 12)
        self.assertEqual(disk[0], "###########.")
        after = table((0, {"a": 1, "b": 2}), (1, "x"), (2, "y" * 9))
        self.full(disk, after)
        self.check(disk, table((0, {"a": 1, "b": 2}), (1, "x"), (2, "y" * 8)),
                   [(10, ("y",) * 4), (11, ("y",) * 4)], [
            (0, "#######hhh##"), (1, (slot("folder", 2, (5, 1)), slot("file", 1, (6, 1)), slot("file", 8, (10, 2)), None))])
        half = brought_to(disk, table((0, {"a": 1, "b": 2}), (1, "x"), (2, "y")))
        self.full(half, after)
        self.assertEqual(loaded(brought_to(flushed(half), after)), after)

    def test_no_room(self):
        disk = stored(table((0, {"a": 1}), (1, "x" * 16)), 12)
        self.check(disk, table((0, {"a": 1, "b": 2, "c": 3}), (1, "x" * 16), (2, "y"), (3, "z")),
                   [(10, ("y", "", "", "")), (11, ("z", "", "", ""))], [
            (0, "############"), (1, (slot("folder", 3, (5, 1)), slot("file", 16, (6, 4)), slot("file", 1, (10, 1)),
                                      slot("file", 1, (11, 1)))), (5, (("a", 1), ("b", 2), ("c", 3), ""))])
        self.full(disk, table((0, {"a": 1, "b": 2}), (1, "x" * 16), (2, "y" * 9)))
        self.full(DISK, table((0, {"a": 1, "b": 2, "d": 4}), (1, "x" * 16), (2, {"c": 3}), (3, "q"), (4, "z")))

    def test_writes_of_calls(self):
        # What a call changes is all that is written.
        self.assertEqual(writes_for(DISK, act(BASE, "c", ("append", "a", "q"))[1]),
                         ([(6, ("x", "y", "q", ""))], [(1, (DISK[1][0], slot("file", 3, (6, 1)), DISK[1][2], None))]))

    def test_any_disks_and_tables(self):
        rooms = 0
        for disk, after in some_pairs(174, 2500):
            writes = plain_writes(disk, after)
            if writes is None:
                self.full(disk, after)
                continue
            rooms += 1
            self.assertEqual(writes_for(disk, after), writes)
            found = brought_to(disk, after)
            self.assertEqual(found, plain_brought(disk, after))
            self.assertEqual(apply_writes(disk, writes[0] + writes[1]), found)
            self.assertEqual(plain_faults(found), [])
            self.assertEqual(loaded(found), after)
            # As few as can differ, and exactly what changes.
            rows = sorted(writes[0] + writes[1], key=lambda row: row[0])
            self.assertEqual(rows, [(block, found[block]) for block in range(len(disk)) if found[block] != disk[block]])
            self.assertTrue(all(block > 4 for block, _ in writes[0]))
        self.assertTrue(1500 < rooms < 2490, rooms)

    def test_returned_lists_are_new(self):
        after = other_body(BASE, 1, *"xyxyx")
        contents, names = writes_for(DISK, after)
        contents.append("more")
        names.clear()
        self.assertEqual(writes_for(DISK, after), plain_writes(DISK, after))


class ApplyWrites(unittest.TestCase):
    def check(self, disk, writes, after):
        self.assertEqual(unchanged(self, apply_writes, disk, writes), after)

    def test_no_writes(self):
        self.check(DISK, [], DISK)

    def test_each_kind_of_block(self):
        self.check(DISK, [(0, "h" * 12)], changed(DISK, 0, "h" * 12))
        self.check(DISK, [(4, DISK[1])], changed(DISK, 4, DISK[1]))
        self.check(DISK, [(11, ("q", ("a", 1), "", "z"))], changed(DISK, 11, ("q", ("a", 1), "", "z")))
        self.check(DISK, [(11, BLANK), (0, "." * 12), (2, (None, slot("file", 16, (39, 40)), None, None))],
                   changed(changed(DISK, 0, "." * 12), 2, slot("file", 16, (39, 40)), 1))

    def test_several_writes_to_one_block(self):
        self.check(DISK, [(6, ("a",) * 4), (6, ("b",) * 4)], changed(DISK, 6, ("b",) * 4))
        self.check(DISK, [(6, ("b",) * 4), (7, ("c",) * 4), (6, ("a",) * 4)],
                   changed(changed(DISK, 6, ("a",) * 4), 7, ("c",) * 4))
        self.check(DISK, [(6, ("b",) * 4), (6, DISK[6])], DISK)

    def test_disks_with_faults(self):
        blank = ("." * 12,) + ((None,) * 4,) * 4 + (BLANK,) * 7
        self.check(blank, [(0, "#" * 12)], changed(blank, 0, "#" * 12))

    def test_wrong_writes(self):
        for writes in (None, (), "", 0, True, [(12, BLANK)], [(-1, BLANK)], [(True, DISK[1])], [(False, DISK[0])], [("6", BLANK)],
                       [(None, BLANK)], [[6, BLANK]], [(6,)], [(6, BLANK, 1)], [()], [None], [0], [""], ["ab"],
                       ((6, BLANK),), [(10 ** 3000, BLANK)],
                       # Each of these leaves no disk.
                       [(0, "#" * 11)], [(0, "#" * 13)], [(0, "#" * 11 + "x")], [(0, BLANK)], [(0, DISK[1])], [(0, None)],
                       [(1, BLANK)], [(1, "x" * 4)], [(1, None)], [(1, (None,) * 3)], [(1, [None] * 4)], [(4, (("file",),) * 4)],
                       [(5, (None,) * 4)], [(5, ("",) * 3)], [(5, ("abcde", "", "", ""))], [(5, ("", "", "", ("a", 16)))],
                       [(6, list(BLANK))], [(6, "xxxx")], [(11, ())]):
            with self.assertRaises(InvalidWrites, msg=repr(writes)[:80]):
                apply_writes(DISK, writes)
            with self.assertRaises(InvalidDisk):
                apply_writes(DISK[1:], writes)

    def test_a_single_one_that_leaves_no_disk(self):
        # Also if a later one makes up for it, and wherever it stands.
        for rows in ([(6, ("abcde",) * 4), (6, BLANK)], [(6, BLANK), (0, "#"), (0, "#" * 12)], [(7, BLANK), (6, BLANK), (12, BLANK)]):
            with self.assertRaises(InvalidWrites):
                apply_writes(DISK, rows)

    def test_any_writes(self):
        right = 0
        for value in wrong_values([[(6, BLANK)], [(0, "#" * 12), (1, DISK[1])], [(11, DISK[5]), (11, DISK[6])], []], 175, 3000):
            is_right = isinstance(value, list) and all(
                type(row) is tuple and len(row) == 2 and type(row[0]) is int and row[0] in range(12)
                and right_disk(changed(DISK, row[0], row[1])) for row in value)
            if is_right:
                right += 1
                blocks = list(DISK)
                for block, row in value:
                    blocks[block] = row
                self.assertEqual(apply_writes(DISK, value), tuple(blocks))
            else:
                with self.assertRaises(InvalidWrites, msg=repr(value)[:100]):
                    apply_writes(DISK, value)
        self.assertGreater(right, 100)

    def test_lists_are_not_kept(self):
        writes = [(6, BLANK)]
        found = apply_writes(DISK, writes)
        writes.append((7, ("x",) * 4))
        self.assertEqual(found, changed(DISK, 6, BLANK))


class Flushed(unittest.TestCase):
    def test_example(self):
        self.assertIs(flushed(stored(BASE, 12)) == stored(BASE, 12), True)

    def test_held_blocks(self):
        for signs in ("#######hhhhh", "#######h.h.h", "############", "h" * 12, "." * 12):
            disk = changed(DISK, 0, signs)
            self.assertEqual(unchanged(self, flushed, disk), with_free(disk))
        self.assertEqual(flushed(changed(DISK, 0, "#######h.#hh"))[0], "#######..#..")


class WrongArguments(unittest.TestCase):
    def test_wrong_disks(self):
        for value in wrong_values([DISK, DISK[0], DISK[1]], 176, 400):
            if right_disk(value):
                continue
            for function, *more in ((writes_for, BASE), (brought_to, BASE), (apply_writes, []), (flushed,), (writes_for, None)):
                with self.assertRaises(InvalidDisk, msg=repr(value)[:100]):
                    function(value, *more)

    def test_wrong_tables(self):
        for value in wrong_values([BASE, BASE[0], other_body(BASE, 1, "q")], 177, 400):
            for function in (writes_for, brought_to):
                if right_table(value):
                    self.assertEqual(plain_loaded(brought_to(DISK, value)), value)
                    continue
                with self.assertRaises(InvalidTable, msg=repr(value)[:100]):
                    function(DISK, value)

    def test_order_of_errors(self):
        full = table((0, {"a": 1}), (1, "x" * 16))
        wide = table((0, {"a": 1, "b": 2}), (1, "x" * 16), (2, "x" * 16))
        spoiled = changed(stored(full, 12), 0, "#" * 12)
        for function in (writes_for, brought_to):
            with self.assertRaises(InvalidDisk):
                function(DISK[:11], None)
            for value in (None, (), wide, full):
                with self.assertRaises(Unsound):
                    function(spoiled, value)
            with self.assertRaises(InvalidTable):
                function(stored(full, 12), wide[1:])
            with self.assertRaises(NoRoom):
                function(stored(full, 12), wide)

    def test_several_steps(self):
        dice = random.Random(178)
        for disk, after in some_pairs(179, 300):
            for _ in range(3):
                if plain_brought(disk, after) is None:
                    break
                disk = brought_to(disk, after)
                self.assertEqual(plain_faults(disk), [])
                self.assertEqual(loaded(flushed(disk)), after)
                if dice.random() < 0.5:
                    disk = flushed(disk)
                after = (after[0][:2] + ("d",) + after[0][3:],) + after[1:]


class StoredAgain(unittest.TestCase):
    def test_a_disk_with_nothing_is_brought_to_what_is_stored(self):
        bare = table((0, {}))
        for after in (BASE, table((0, {"a": 1}), (1, "x" * 16))):
            self.assertEqual(brought_to(stored(bare, 12), after)[5:], disk_for(after, 12)[5:])
