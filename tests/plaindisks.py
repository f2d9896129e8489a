"""Disks once more, in another way than in the package: what is right, how tables are stored, and what the faults are."""

import random

from helpers import right_word
from plaintables import right_entry, right_rights, right_user


def is_between(candidate, least, most):
    return type(candidate) is int and candidate in range(least, most + 1)


def right_slot(candidate):
    if candidate is None:
        return True
    if type(candidate) is not tuple or len(candidate) != 5 or candidate[0] not in ("folder", "file"):
        return False
    _, owner, rights, length, extents = candidate
    if not right_user(owner) or not right_rights(rights) or not is_between(length, 0, 16) or type(extents) is not tuple:
        return False
    return all(type(row) is tuple and len(row) == 2 and is_between(row[0], 0, 39) and is_between(row[1], 1, 40)
               for row in extents)


def right_item(candidate):
    return candidate == "" or bool(right_word(candidate)) or right_entry(candidate)


def right_disk(candidate):
    if type(candidate) is not tuple or len(candidate) not in range(12, 41):
        return False
    signs = candidate[0]
    if type(signs) is not str or len(signs) != len(candidate) or signs.strip("#.h"):
        return False
    if not all(type(block) is tuple and len(block) == 4 for block in candidate[1:]):
        return False
    return (all(right_slot(slot) for block in candidate[1:5] for slot in block)
            and all(right_item(item) for block in candidate[5:] for item in block))


def packed(blocks):
    """Return blocks as extents."""
    extents = []
    for block in blocks:
        if extents and sum(extents[-1]) == block:
            extents[-1][1] += 1
        else:
            extents.append([block, 1])
    return tuple(map(tuple, extents))


def disk_for(table, size, order=None):
    """Return a sound disk with a table, whose nodes get their blocks in an order of all data blocks."""
    left = list(range(5, size)) if order is None else list(order)
    blocks = [("", "", "", "")] * size
    slots = [None] * 16
    used = set(range(5))
    for number, kind, owner, rights, body in table:
        own = [left.pop(0) for _ in range((len(body) + 3) // 4)]
        used.update(own)
        for at, block in enumerate(own):
            blocks[block] = (tuple(body[4 * at:4 * at + 4]) + ("",) * 4)[:4]
        slots[number] = (kind, owner, rights, len(body), packed(own))
    blocks[1:5] = [tuple(slots[at:at + 4]) for at in range(0, 16, 4)]
    blocks[0] = "".join("#" if at in used else "." for at in range(size))
    return tuple(blocks)


def changed(disk, block, value, at=None):
    """Return a disk with another block, or with another item, slot or sign in it."""
    if at is not None:
        row = list(disk[block])
        row[at] = value
        value = "".join(row) if block == 0 else tuple(row)
    return disk[:block] + (value,) + disk[block + 1:]


def slot_changed(disk, number, slot):
    return changed(disk, 1 + number // 4, slot, number % 4)


def plain_faults(disk):
    """Return the faults of a disk, found in another way than in the package."""
    size = len(disk)
    slots = {number: disk[1 + number // 4][number % 4] for number in range(16)}
    slots = {number: slot for number, slot in slots.items() if slot is not None}
    blocks = {number: [block for start, count in slot[4] for block in range(start, start + count)]
              for number, slot in slots.items()}
    times = {}
    for row in blocks.values():
        for block in row:
            times[block] = times.get(block, 0) + 1
    found, bodies = set(), {}
    for number, (kind, _, _, length, _) in slots.items():
        bodies[number] = ()
        items = None
        if all(block in range(5, size) and times[block] == 1 for block in blocks[number]):
            items = [item for block in blocks[number] for item in disk[block]]
        if items is not None and len(items) >= length:
            body = items[:length]
            names = [item[0] for item in body if type(item) is tuple]
            if kind == "file" and all(type(item) is str and item for item in body):
                bodies[number] = tuple(body)
                continue
            if kind == "folder" and len(names) == length and names == sorted(set(names)):
                bodies[number] = tuple(body)
                continue
        found.add(("body", number))
    entries = [(number, name, other) for number, slot in slots.items() if slot[0] == "folder"
               for name, other in bodies[number]]
    found |= {("lead", number, name) for number, name, other in entries if other == 0 or other not in slots}
    for block in range(size):
        has = block in times or block < 5
        if has and disk[0][block] != "#":
            found.add(("map", block))
        if not has and disk[0][block] == "#":
            found.add(("lost", block))
    if 0 not in slots or slots[0][0] == "file":
        found.add(("root", 0))
    led = [other for _, _, other in entries]
    found |= {("twice", number) for number, slot in slots.items() if number and slot[0] == "folder" and led.count(number) > 1}
    met = {0}
    for _ in range(16):
        met |= {other for number, _, other in entries if number in met}
    found |= {("unreached", number) for number in slots if number not in met}
    return sorted(found)


def spoiled_disk(disk, dice):
    """Return a disk in which one thing is another one; it still is a disk."""
    size, turn = len(disk), dice.randrange(7)
    if turn == 0:
        return changed(disk, 0, dice.choice("#.h"), dice.randrange(size))
    if turn == 1:
        item = dice.choice(["", "x", "zo", ("a", 1), ("b", dice.randrange(16)), ("zz", 0)])
        used = [block for block in range(5, size) if disk[0][block] == "#"] or [5]
        return changed(disk, dice.choice(used), item, dice.randrange(4))
    slots = [disk[1 + number // 4][number % 4] for number in range(16)]
    number = dice.choice([at for at in range(16) if slots[at] is not None] or [0])
    kind, owner, rights, length, extents = slots[number] or ("file", "b", "r--w", 0, ())
    if turn == 2:
        return slot_changed(disk, number, dice.choice([None, (kind, owner, rights, length, ())]))
    if turn == 3:
        return slot_changed(disk, number, (kind, owner, rights, dice.randrange(17), extents))
    if turn == 4:
        return slot_changed(disk, number, (dice.choice(("folder", "file")), owner, rights, length, extents))
    if turn == 5:
        extent = (dice.choice([4, 5, 6, 7, size - 1, 39, dice.randrange(40)]), dice.choice([1, 1, 2, 3, 40]))
        return slot_changed(disk, number, (kind, owner, rights, length, dice.choice([extents + (extent,), (extent,)])))
    return slot_changed(disk, dice.randrange(16), slots[number])


def some_spoiled(tables, seed, many):
    """Return disks with some tables, most of them with up to four faults."""
    dice = random.Random(seed)
    found = []
    for _ in range(many):
        size = dice.choice((20, 25, 40))
        order = list(range(5, size))
        if dice.random() < 0.5:
            dice.shuffle(order)
        disk = disk_for(dice.choice(tables), size, order)
        for _ in range(dice.randrange(5)):
            disk = spoiled_disk(disk, dice)
        found.append(disk)
    return found
