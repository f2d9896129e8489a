"""Writes and crashes once more, in another way than in the package: slowly, and word by word as the document says it."""

import itertools
import random
import re

from plaindisks import disk_for, packed, plain_faults
from plaintables import plain_act, random_table

MODES = ("all", "ordered", "names")


def plain_choose(signs, many):
    """Return the blocks that are chosen by a map, or None."""
    signs = "#" * 5 + signs[5:]
    if signs.count(".") < many:
        return None
    found = []
    while len(found) < many:
        left = many - len(found)
        rows = [match.span() for match in re.finditer("[.]+", signs)]
        longest = max(end - start for start, end in rows)
        wanted = min(left, longest)
        start = next(start for start, end in rows if end - start >= wanted)
        found.extend(range(start, start + wanted))
        signs = signs[:start] + "#" * wanted + signs[start + wanted:]
    return found


def plain_parts(disk):
    """Return the slots, the blocks and the bodies of the nodes of a sound disk, by their numbers."""
    slots, places, bodies = {}, {}, {}
    for number in range(16):
        slot = disk[1 + number // 4][number % 4]
        if slot is not None:
            slots[number] = slot
            places[number] = [block for start, count in slot[4] for block in range(start, start + count)]
            bodies[number] = tuple(item for block in places[number] for item in disk[block])[:slot[3]]
    return slots, places, bodies


def plain_loaded(disk):
    slots, _, bodies = plain_parts(disk)
    return tuple((number,) + slots[number][:3] + (bodies[number],) for number in sorted(slots))


def plain_brought(disk, table):
    """Return the disk behind the writes that bring it to a table, or None if there is no room."""
    slots, places, bodies = plain_parts(disk)
    blocks = [list(block) for block in disk]
    after = {node[0]: node for node in table}
    rows = [None] * 16
    for number in range(16):
        had = places.get(number, [])
        if number not in after:
            for block in had:
                blocks[0][block] = "h"
            continue
        _, kind, owner, rights, body = after[number]
        many = -(-len(body) // 4)
        if number in slots and slots[number][0] == kind:
            kept = had if bodies[number] == body else had[:many]
        else:
            kept = []
        for block in had[len(kept):]:
            blocks[0][block] = "h"
        more = plain_choose("".join(blocks[0]), max(0, many - len(kept)))
        if more is None:
            return None
        for block in more:
            blocks[0][block] = "#"
        own = list(kept) + more
        for at, item in enumerate(body):
            blocks[own[at // 4]][at % 4] = item
        rows[number] = (kind, owner, rights, len(body), packed(own))
    return ("".join(blocks[0]),) + tuple(tuple(rows[at:at + 4]) for at in (0, 4, 8, 12)) + tuple(map(tuple, blocks[5:]))


def plain_writes(disk, table):
    """Return the writes of contents and of names, or None if there is no room."""
    after = plain_brought(disk, table)
    if after is None:
        return None
    of_files = {block for start, count in [extent for rows in after[1:5] for slot in rows if slot and slot[0] == "file"
                                           for extent in slot[4]] for block in range(start, start + count)}
    rows = [(block, value) for block, value in enumerate(after) if disk[block] != value]
    return [row for row in rows if row[0] in of_files], [row for row in rows if row[0] not in of_files]


def with_free(disk):
    return (disk[0].replace("h", "."),) + disk[1:]


def plain_image(disk):
    def text(item):
        return "." if item == "" else item if isinstance(item, str) else "{}>{}".format(*item)

    def slot_text(slot):
        if slot is None:
            return "-"
        return "{} {} {} {}".format(*slot[:4]) + "".join(f" {start}+{count}" for start, count in slot[4])

    return ([disk[0]] + [" | ".join(map(slot_text, block)) for block in disk[1:5]]
            + [" ".join(map(text, block)) for block in disk[5:]])


def plain_found(disk, dealings, mode):
    """Return the disks that can be found, in order; "NoRoom" or "TooMany" if they cannot be told."""
    # Each item: whether it is a flush, and else the writes of contents and of names.
    rows, now = [], disk
    for item in dealings:
        if item == "flush":
            now = with_free(now)
            rows.append(None)
        else:
            writes = plain_writes(now, item)
            if writes is None:
                return "NoRoom"
            rows.append(writes)
            now = plain_brought(now, item)
    many = 0
    for row in rows:
        many = 0 if row is None else many + len(row[0])
        if many > 6:
            return "TooMany"
    found = set()
    for given in range(len(rows) + 1):
        tables = [at for at in range(given) if rows[at] is not None]
        flushes = [at for at in range(given) if rows[at] is None]
        last = flushes[-1] if flushes else -1
        sure = [at for at in tables if at < last]
        for first in range(len(sure), len(tables) + 1):
            named = tables[:first]
            certain = {"all": named, "ordered": named, "names": sure}[mode]
            loose = [] if mode == "all" else [at for at in tables if at not in certain]
            writes = [(at, write) for at in loose for write in rows[at][0]]
            for many in range(len(writes) + 1):
                for chosen in itertools.combinations(writes, many):
                    found.add(after_crash(disk, rows, named, certain, chosen))
    return sorted(found, key=plain_image)


def after_crash(disk, rows, named, certain, chosen):
    """Return the disk with the names and the contents of some dealings, and with some further writes of contents."""
    blocks = list(disk)
    for at, row in enumerate(rows):
        if at in named:
            for block, value in row[1]:
                blocks[block] = value
        if at in certain:
            for block, value in row[0]:
                blocks[block] = value
        for other, (block, value) in chosen:
            if other == at:
                blocks[block] = value
    return with_free(tuple(blocks))


def plain_tables(disks):
    return sorted({plain_loaded(disk) for disk in disks if not plain_faults(disk)})


def with_body(dice, table):
    """Return a table in which one file has another body."""
    files = [at for at, node in enumerate(table) if node[1] == "file"]
    if not files:
        return table
    at = dice.choice(files)
    body = list(table[at][4])
    turn = dice.randrange(4)
    if turn == 0 and body:
        body[dice.randrange(len(body))] = dice.choice(("x", "y", "new"))
    elif turn == 1:
        body = body[:dice.randrange(len(body) + 1)]
    elif turn == 2:
        body = (body + [dice.choice(("x", "q")) for _ in range(dice.choice((1, 3, 9)))])[:16]
    else:
        body = [dice.choice(("x", "y", "zo")) for _ in range(dice.choice((0, 1, 4, 5, 16)))]
    return table[:at] + (table[at][:4] + (tuple(body),),) + table[at + 1:]


def other_table(dice, table):
    """Return a table that is a little different, or quite another one."""
    turn = dice.randrange(10)
    if turn == 0:
        return random_table(dice, most=6)
    if turn < 4:
        return with_body(dice, table)
    if turn == 4:
        at = dice.randrange(len(table))
        number, kind, _, _, body = table[at]
        return table[:at] + ((number, kind, dice.choice("abcd"), dice.choice(("rw--", "rwrw")), body),) + table[at + 1:]
    free = tuple(node[:3] + ("rwrw",) + node[4:] for node in table)
    for _ in range(20):
        first, second = (dice.choice(("a", "b", "c", "d", "a/b", "b/c", "a/d")) for _ in range(2))
        call = dice.choice((("folder", first), ("file", first), ("write", first, "q"), ("append", first, "p"),
                            ("copy", first, second), ("link", first, second), ("remove", first), ("drop", first),
                            ("move", first, second)))
        result, after, _ = plain_act(free, "a", call)
        if result == "ok":
            return after
    return table


def shuffled_disk(dice, disk):
    """Return a sound disk with the same table, of which some free blocks are held or have old items."""
    signs = "".join(dice.choice("..h") if sign != "#" else sign for sign in disk[0])
    old = [("x", "y", "", ""), ("x", "x", "x", "x"), (("a", 1), ("b", 2), "", "q"), ("", "", "", "")]
    rows = [dice.choice(old) if sign != "#" else block for sign, block in zip(signs, disk)]
    return (signs,) + tuple(rows[1:])


def random_disk(dice, table, size, is_shuffled):
    """Return a sound disk with a table on any blocks."""
    order = list(range(5, size))
    if is_shuffled:
        dice.shuffle(order)
    return shuffled_disk(dice, disk_for(table, size, order))


def some_pairs(seed, many, sizes=(12, 16, 25, 40)):
    """Return tuples of a sound disk and a table to which it may be brought."""
    dice = random.Random(seed)
    found = []
    while len(found) < many:
        size = dice.choice(sizes)
        table = random_table(dice, most=dice.choice((2, 4, 10)))
        if sum(-(-len(node[4]) // 4) for node in table) > size - 5:
            continue
        other = table
        for _ in range(dice.randrange(4)):
            other = other_table(dice, other)
        found.append((random_disk(dice, table, size, dice.random() < 0.7), other))
    return found
