"""Looking for the faults of a disk."""

from scripttrees.blocks import FIRST_DATA_BLOCK, USED, blocks_in, check_disk, items_in, slots_of
from scripttrees.errors import Unsound
from scripttrees.nodes import are_items, reached


def has_good_blocks(disk, blocks, others):
    """Return whether some blocks are data blocks of a disk and occur once each among the blocks of all nodes."""
    for block in blocks:
        if not FIRST_DATA_BLOCK <= block < len(disk) or others.count(block) > 1:
            return False
    return True


def good_body(disk, slot, others):
    """Return the body of the node in a slot, or None if it is not good; others are the blocks of all nodes."""
    kind, _, _, length, _ = slot
    blocks = blocks_in(slot)
    if not has_good_blocks(disk, blocks, others):
        return None
    items = items_in(disk, blocks)
    if len(items) < length or not are_items(items[:length], kind):
        return None
    return tuple(items[:length])


def map_faults(disk, taken):
    """Return the list of the faults of the map of a disk; taken are the blocks of all nodes."""
    rows = []
    for block in range(len(disk)):
        is_used = disk[0][block] == USED
        if block < FIRST_DATA_BLOCK or block in taken:
            if not is_used:
                rows.append(("map", block))
        elif is_used:
            rows.append(("lost", block))
    return rows


def entry_faults(slots, bodies):
    """Return the list of the faults of the entries of folders; bodies are those of the folders by their numbers."""
    rows = []
    for folder in bodies:
        for name, number in bodies[folder]:
            if number == 0 or number not in slots:
                rows.append(("lead", folder, name))
    led = [number for body in bodies.values() for _, number in body]
    for number in bodies:
        if number != 0 and led.count(number) > 1:
            rows.append(("twice", number))
    return rows


def faults_of(disk):
    """Return what faults returns, for what is known to be a disk."""
    slots = slots_of(disk)
    taken = [block for slot in slots.values() for block in blocks_in(slot)]
    rows = map_faults(disk, taken)
    bodies = {}
    for number, slot in slots.items():
        body = good_body(disk, slot, taken)
        if body is None:
            rows.append(("body", number))
        if slot[0] == "folder":
            bodies[number] = body or ()
    if 0 not in bodies:
        rows.append(("root", 0))
    met = reached(bodies)
    rows.extend([("unreached", number) for number in slots if number not in met])
    return sorted(rows + entry_faults(slots, bodies))


def faults(disk):
    """Return the ascending list of the faults of a disk."""
    check_disk(disk)
    return faults_of(disk)


def is_sound(disk):
    """Return whether a disk has no faults."""
    return not faults(disk)


def check_sound(disk):
    """Raise Unsound if what is known to be a disk has faults."""
    if faults_of(disk):
        raise Unsound("this disk has faults")
