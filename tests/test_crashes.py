"""[0.2] (e), [0.3], [18.1], [18.2], [18.3]: crashes."""

import random
import time
import unittest

from helpers import unchanged, wrong_values
from plaindisks import changed, plain_faults, right_disk, slot_changed
from plaintables import right_table
from plainwrites import (MODES, other_table, plain_brought, plain_found, plain_image, plain_loaded, plain_tables, some_pairs,
                         with_free)
from scripttrees.crashes import are_dealings, can_break, found_disks, found_tables
from scripttrees.disks import stored
from scripttrees.errors import InvalidDealings, InvalidDisk, InvalidMode, NoRoom, TooMany, Unsound
from scripttrees.images import image
from scripttrees.looker import is_sound
from scripttrees.tables import table_of
from scripttrees.writing import brought_to
from test_writing import other_body, slot, table

BASE = table_of((("b",), ((("a",), ("x", "y")),)), "c")
DISK = stored(BASE, 12)
FLUSH = "flush"
FULL = table((0, {"a": 1}), (1, "x" * 16))
WIDE = table((0, {"a": 1, "b": 2}), (1, "x" * 16), (2, "x" * 16))


def words(*body):
    """Return the table BASE with other words in its file."""
    return other_body(BASE, 1, *body)


def right_dealings(candidate):
    return isinstance(candidate, list) and len(candidate) <= 12 and all(
        (isinstance(item, str) and item == "flush") or right_table(item) for item in candidate)


class AreDealings(unittest.TestCase):
    def test_what_they_are(self):
        for candidate in ([], [FLUSH], [FLUSH, FLUSH], [BASE], [BASE, FLUSH, FULL], [BASE] * 12, [FLUSH] * 12, [WIDE, FULL]):
            self.assertIs(unchanged(self, are_dealings, candidate), True, candidate)
        for candidate in ((), (BASE,), BASE, FLUSH, None, 0, "", [None], ["Flush"], ["flush "], [""], [BASE[1:]], [[FLUSH]],
                          [(FLUSH,)], [DISK], [BASE] * 13, [FLUSH] * 13, [list(BASE)], [BASE, True]):
            self.assertIs(unchanged(self, are_dealings, candidate), False, candidate)

    def test_any_values(self):
        right = 0
        for value in wrong_values([[BASE, FLUSH, FULL], [FLUSH], [BASE]], 181, 4000):
            answer = right_dealings(value)
            self.assertIs(are_dealings(value), answer, repr(value)[:200])
            right += answer
        self.assertGreater(right, 100)


class Crashes(unittest.TestCase):
    def check(self, disk, dealings, mode, disks):
        """See that these are the disks, in whatever order they are told here."""
        disks = sorted(disks, key=plain_image)
        self.assertEqual(plain_found(disk, dealings, mode), disks)
        self.assertEqual(unchanged(self, found_disks, disk, dealings, mode), disks)
        self.assertEqual([image(found) for found in disks], sorted(image(found) for found in disks))
        tables = unchanged(self, found_tables, disk, dealings, mode)
        self.assertEqual(tables, plain_tables(disks))
        broken = [found for found in disks if plain_faults(found)]
        self.assertIs(unchanged(self, can_break, disk, dealings, mode), bool(broken))
        if mode != "names":
            self.assertEqual(broken, [])
            self.assertEqual(tables, sorted({plain_loaded(found) for found in disks}))
        return disks

    def check_all(self, disk, dealings, disks):
        for mode in MODES:
            self.check(disk, dealings, mode, disks)

    def test_example(self):
        self.assertEqual(len(found_disks(stored(BASE, 12), [], "all")), 1)

    def test_no_dealings(self):
        self.check_all(DISK, [], [DISK])
        self.check_all(changed(DISK, 0, "#######h.h.h"), [], [DISK])

    def test_flushes_alone(self):
        for dealings in ([FLUSH], [FLUSH, FLUSH], [FLUSH] * 12):
            self.check_all(DISK, dealings, [DISK])
            self.check_all(changed(DISK, 0, "#######h.h.h"), dealings, [DISK])

    def test_the_same_table(self):
        self.check_all(DISK, [BASE], [DISK])
        self.check_all(DISK, [BASE, FLUSH, BASE, BASE], [DISK])

    def test_one_table_with_contents_only(self):
        after = brought_to(DISK, words("x", "q"))
        # Nothing has to be in the journal.
        self.check_all(DISK, [words("x", "q")], [DISK, after])

    def test_one_table_with_names_only(self):
        bare = table((0, {"b": 2}), (2, {}))
        self.check_all(DISK, [bare], [DISK, with_free(brought_to(DISK, bare))])

    def test_one_table_with_both(self):
        more = words("q", "y", "z")
        after = brought_to(DISK, more)
        contents_only = changed(DISK, 6, ("q", "y", "z", ""))
        names_only = slot_changed(DISK, 1, slot("file", 3, (6, 1)))
        self.check(DISK, [more], "all", [DISK, after])
        self.check(DISK, [more], "ordered", [DISK, contents_only, after])
        self.check(DISK, [more], "names", [DISK, contents_only, names_only, after])
        self.assertFalse(is_sound(names_only))
        self.assertEqual(found_tables(DISK, [more], "names"), sorted([BASE, words("q", "y"), more]))
        self.assertTrue(can_break(DISK, [more], "names"))
        self.assertFalse(can_break(DISK, [more], "ordered"))

    def test_a_flush_makes_sure(self):
        more = words("q", "y", "z")
        after = brought_to(DISK, more)
        last = words("q", "p", "z")
        done = brought_to(after, last)
        # A crash may still come before the flush.
        self.check(DISK, [more, FLUSH], "all", [DISK, after])
        self.check(DISK, [more, FLUSH], "ordered", found_disks(DISK, [more], "ordered"))
        self.check(DISK, [FLUSH, more], "names", found_disks(DISK, [more], "names"))
        self.check(DISK, [more, FLUSH, last], "all", [DISK, after, done])
        self.check(DISK, [more, FLUSH, last], "ordered", found_disks(DISK, [more], "ordered") + [done])
        self.check(DISK, [more, FLUSH, last], "names", found_disks(DISK, [more], "names") + [done])
        self.check(DISK, [more, FLUSH, last, FLUSH, FLUSH], "names", found_disks(DISK, [more], "names") + [done])
        # Without it, the contents of the later table can be there alone.
        both = found_disks(DISK, [more, last], "ordered")
        self.assertIn(changed(DISK, 6, done[6]), both)
        self.assertNotIn(changed(DISK, 6, done[6]), found_disks(DISK, [more, FLUSH, last], "ordered"))

    def test_the_journal_keeps_the_order(self):
        one = table((0, {"a": 1, "b": 2, "c": 3}), (1, "xy"), (2, {}), (3, {}))
        two = table((0, {"a": 1, "b": 2, "c": 3}), (1, "xy"), (2, {"d": 4}), (3, {}), (4, {}))
        disks = [DISK, brought_to(DISK, one), brought_to(brought_to(DISK, one), two)]
        self.check_all(DISK, [one, two], disks)
        self.check_all(DISK, [one, FLUSH, two], disks)
        self.check_all(DISK, [one, two, BASE, one], disks + [with_free(brought_to(disks[2], BASE)), with_free(
            brought_to(brought_to(disks[2], BASE), one))])

    def test_the_latest_table_counts(self):
        first, second = words("p", "y"), words("q", "y")
        disks = [DISK, brought_to(DISK, first), brought_to(DISK, second)]
        self.check_all(DISK, [first, second], disks)
        self.check_all(DISK, [first, second, BASE], disks)
        # With names in between: in the mode "ordered" contents of earlier tables are there where their names are.
        more = words("p", "y", "r")
        for mode in MODES:
            found = self.check(DISK, [first, more, second], mode, plain_found(DISK, [first, more, second], mode))
            named = {row[6] for row in found if row[1][1][3] == 3}
            self.assertEqual(("p", "y", "", "") in named, mode == "names")
            self.assertIn(("q", "y", "r", "") if mode != "all" else ("p", "y", "r", ""), named)

    def test_held_blocks(self):
        # Without a flush the block that the file gave back is not chosen, behind a crash it is free.
        short, other = words(), table((0, {"a": 1, "b": 2, "c": 3}), (1, ()), (2, {}), (3, "q"))
        for mode in MODES:
            found = self.check(DISK, [short, other], mode, plain_found(DISK, [short, other], mode))
            self.assertTrue(all("h" not in row[0] for row in found))
            self.assertEqual({row[6] for row in found}, {("x", "y", "", "")})
            self.assertTrue(any(row[7] != ("",) * 4 for row in found))
            found = self.check(DISK, [short, FLUSH, other], mode, plain_found(DISK, [short, FLUSH, other], mode))
            self.assertIn(("q", "y", "", ""), {row[6] for row in found})
            self.assertEqual({row[7] for row in found}, {("",) * 4})

    def test_contents_behind_which_a_disk_breaks(self):
        # A new file whose names are there, and whose contents are not.
        new = table((0, {"a": 1, "b": 2, "c": 3}), (1, "xy"), (2, {}), (3, "q"))
        found = self.check(DISK, [new], "names", plain_found(DISK, [new], "names"))
        self.assertEqual(len(found), 4)
        self.assertEqual(len([row for row in found if not is_sound(row)]), 1)
        self.assertEqual(found_tables(DISK, [new], "names"), sorted([BASE, new]))
        self.assertIs(can_break(DISK, [new], "names"), True)
        for mode in ("all", "ordered"):
            self.assertIs(can_break(DISK, [new], mode), False)

    def test_each_disk_once(self):
        dealings = [words("p", "y"), BASE, words("p", "y"), BASE]
        for mode in MODES:
            self.check(DISK, dealings, mode, [DISK, brought_to(DISK, dealings[0])])

    def test_order_of_images(self):
        # The image of an entry or an empty item is another string than the item.
        new = table((0, {"a": 1, "b": 2, "c": 3}), (1, "xy"), (2, {}), (3, "qrstu"))
        found = found_disks(DISK, [new, BASE, words("q", "y")], "names")
        self.assertEqual([image(disk) for disk in found], sorted(image(disk) for disk in found))
        self.assertGreater(len(found), 8)

    def test_crashes_behind_each_number_of_dealings(self):
        dealings = [words("q", "y"), FLUSH, words("q", "y", "z"), words("z"), FLUSH, BASE]
        for mode in MODES:
            found = set()
            for many in range(len(dealings) + 1):
                some = found_disks(DISK, dealings[:many], mode)
                self.assertTrue(found <= set(some))
                found |= set(some)
            self.check(DISK, dealings, mode, found)

    def test_any_dealings(self):
        dice = random.Random(182)
        many = {mode: 0 for mode in MODES}
        broken = 0
        for disk, _ in some_pairs(183, 500):
            dealings, last = [], plain_loaded(disk)
            for _ in range(dice.randrange(6)):
                if dice.random() < 0.25:
                    dealings.append(FLUSH)
                else:
                    last = other_table(dice, last)
                    dealings.append(last)
            for mode in MODES:
                disks = plain_found(disk, dealings, mode)
                if isinstance(disks, str):
                    with self.assertRaises({"NoRoom": NoRoom, "TooMany": TooMany}[disks]):
                        found_disks(disk, dealings, mode)
                    continue
                self.assertEqual(found_disks(disk, dealings, mode), disks)
                self.assertEqual(found_tables(disk, dealings, mode), plain_tables(disks))
                bad = any(plain_faults(found) for found in disks)
                self.assertIs(can_break(disk, dealings, mode), bad)
                self.assertTrue(mode == "names" or not bad)
                broken += bad
                many[mode] = max(many[mode], len(disks))
        self.assertGreater(broken, 20)
        self.assertGreater(min(many.values()), 5)


class Bounds(unittest.TestCase):
    def raises(self, error, disk, dealings):
        for function in (found_disks, found_tables, can_break):
            for mode in MODES:
                with self.assertRaises(error):
                    function(disk, dealings, mode)
                self.assertEqual(plain_found(disk, dealings, mode), error.__name__)

    def test_six_and_seven_writes(self):
        turns = [words("x", "q"), words("x", "r")] * 6
        for mode in MODES:
            for dealings in (turns[:6], turns[:6] + [FLUSH] + turns[:5], [FLUSH] + turns[:6], turns[:6] + [FLUSH],
                             [words(*"abcdefghijklmnop"), FLUSH, words(*"bbcdebghijblmnop"), words(*"bbcdecghijclmnop")],
                             [BASE] * 6 + turns[:6]):
                self.assertEqual(found_disks(DISK, dealings, mode), plain_found(DISK, dealings, mode))
        self.raises(TooMany, DISK, turns[:7])
        self.raises(TooMany, DISK, [FLUSH] + turns[:7])
        self.raises(TooMany, DISK, turns[:7] + [FLUSH])
        self.raises(TooMany, DISK, [FLUSH] + turns[:7] + [FLUSH])
        self.raises(TooMany, DISK, turns[:2] + [FLUSH] + turns[:7] + [FLUSH, BASE])
        # A table may have several writes of contents.
        self.raises(TooMany, DISK, [words(*"abcdefghijklmnop"), words(*"bbcdebghijblmnop")])

    def test_no_room(self):
        full = stored(FULL, 12)
        self.raises(NoRoom, full, [WIDE])
        self.raises(NoRoom, full, [FLUSH, FULL, WIDE, FLUSH, FULL])
        self.raises(NoRoom, full, [FULL, WIDE, BASE])
        # What was given back is free only behind a flush.
        one, two = table((0, {"a": 1}), (1, "x")), table((0, {"b": 2}), (2, "y" * 16))
        self.raises(NoRoom, full, [one, two])
        for mode in MODES:
            self.assertEqual(found_disks(full, [one, FLUSH, two], mode), plain_found(full, [one, FLUSH, two], mode))

    def test_no_room_comes_before_too_many(self):
        full = stored(FULL, 12)
        other = [table((0, {"a": 1}), (1, "y" * 16)), FULL] * 2
        self.raises(TooMany, full, other)
        self.raises(NoRoom, full, other + [WIDE])
        self.raises(NoRoom, full, [WIDE] + other)
        self.raises(TooMany, full, other + [FLUSH, FULL])

    def test_longest_dealings(self):
        # Six writes of contents, and twelve tables, all of which have names.
        files = {"abcdefghijkl"[at]: at + 1 for at in range(12)}
        tables, rows = [], [(0, files)] + [(at + 1, "x") for at in range(12)]
        for at in range(12):
            rows[at + 1] = (at + 1, "xy" if at % 2 else "")
            tables.append(table(*rows))
        disk = stored(table((0, files), *[(at + 1, "x") for at in range(12)]), 40)
        turns = [words("x", "q", "r"), words("x")] * 6
        start = time.monotonic()
        for mode in MODES:
            disks = found_disks(disk, tables, mode)
            self.assertEqual(len(disks), len({tuple(image(row)) for row in disks}))
            self.assertEqual(can_break(disk, tables, mode), mode == "names")
            self.assertEqual(found_tables(disk, tables, mode), plain_tables(disks))
            # Many writes of contents in each of the stretches, too.
            dealings = [item for at in range(6) for item in (turns[at], FLUSH)]
            self.assertEqual(can_break(DISK, dealings, mode), mode == "names")
        self.assertGreater(len(disks), 500)
        self.assertLess(time.monotonic() - start, 10)


class WrongArguments(unittest.TestCase):
    FUNCTIONS = (found_disks, found_tables, can_break)

    def test_wrong_disks(self):
        for value in wrong_values([DISK, DISK[0], DISK[1]], 184, 300):
            for function in self.FUNCTIONS:
                if right_disk(value) and not plain_faults(value):
                    continue
                error = Unsound if right_disk(value) else InvalidDisk
                with self.assertRaises(error, msg=repr(value)[:100]):
                    function(value, [None], "none")

    def test_wrong_dealings(self):
        for value in wrong_values([[BASE, FLUSH], [FLUSH], [BASE] * 12], 185, 300):
            for function in self.FUNCTIONS:
                if right_dealings(value):
                    continue
                with self.assertRaises(InvalidDealings, msg=repr(value)[:100]):
                    function(DISK, value, None)
        for function in self.FUNCTIONS:
            with self.assertRaises(InvalidDealings):
                function(DISK, [BASE] * 13, "all")
            self.assertIsNotNone(function(DISK, [BASE] * 12, "all"))

    def test_wrong_modes(self):
        full = stored(FULL, 12)
        for value in wrong_values(["all", "ordered", "names"], 186, 60) + ["All", "", "name", "all ", ("all",), ["all"], 0]:
            if isinstance(value, str) and value in MODES:
                continue
            for function in self.FUNCTIONS:
                with self.assertRaises(InvalidMode, msg=repr(value)[:100]):
                    function(full, [WIDE], value)

    def test_order_of_errors(self):
        unsound = changed(DISK, 0, "#" * 12)
        for function in self.FUNCTIONS:
            with self.assertRaises(Unsound):
                function(unsound, None, None)
            with self.assertRaises(InvalidDisk):
                function(unsound[1:], None, None)

    def test_lists_are_not_kept(self):
        dealings = [words("q", "y")]
        found = found_disks(DISK, dealings, "all")
        dealings.clear()
        self.assertEqual(found, found_disks(DISK, [words("q", "y")], "all"))
        self.assertEqual(plain_brought(DISK, words("q", "y")), found[1] if found[0] == DISK else found[0])
