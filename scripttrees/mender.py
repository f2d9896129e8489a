"""Mending disks."""

from scripttrees.blocks import FIRST_DATA_BLOCK, FREE, IN_BLOCK, USED, all_slots, blocks_in, built_disk, check_disk
from scripttrees.blocks import count_blocks, extents_of, items_in, slots_of
from scripttrees.nodes import are_items

NEW_ROOT = ("folder", "a", "rwrw", 0, ())


class Mending:
    """A disk while it is mended."""

    def __init__(self, disk):
        self.blocks = list(disk)
        self.slots = slots_of(disk)
        # The blocks that nodes keep, and their bodies, by their numbers.
        self.places = {}
        self.bodies = {}
        # The numbers of the nodes that were reached from the root folder, in the order in which they were met.
        self.met = [0]

    def is_folder(self, number):
        """Return whether the node with a number is a folder."""
        return self.slots[number][0] == "folder"


def mend_root(mending):
    """Make a root folder if there is none."""
    if 0 not in mending.slots or not mending.is_folder(0):
        mending.slots[0] = NEW_ROOT


def first_blocks(slot, size, taken):
    """Return the list of the blocks of a node up to the first one that it cannot have."""
    found = []
    for block in blocks_in(slot):
        if not FIRST_DATA_BLOCK <= block < size or block in found or block in taken:
            break
        found.append(block)
    return found


def good_start(items, kind):
    """Return the list of the first items, as many as can be a body."""
    body = []
    for item in items:
        if not are_items(body + [item], kind):
            break
        body.append(item)
    return body


def mend_bodies(mending):
    """Find out which blocks each node keeps, and which body it has."""
    taken = {}
    for number in sorted(mending.slots):
        slot = mending.slots[number]
        blocks = first_blocks(slot, len(mending.blocks), taken)
        body = good_start(items_in(mending.blocks, blocks)[:slot[3]], slot[0])
        kept = blocks[:count_blocks(body)]
        for block in kept:
            taken[block] = True
        mending.places[number] = kept
        mending.bodies[number] = body


def good_entries(mending, folder):
    """Return the list of the entries that a folder keeps, and take note of the nodes that they lead to."""
    entries = []
    for name, number in mending.bodies[folder]:
        is_there = number in mending.slots
        # The root folder was met before all others, so entries to it go, too.
        if is_there and not (number in mending.met and mending.is_folder(number)):
            mending.met.append(number)
            entries.append((name, number))
    return entries


def rewrite(mending, folder, entries):
    """Leave only some entries in a folder."""
    blocks = mending.places[folder]
    items = entries + [""] * (len(blocks) * IN_BLOCK - len(entries))
    for at in range(len(blocks)):
        mending.blocks[blocks[at]] = tuple(items[at * IN_BLOCK:(at + 1) * IN_BLOCK])
    mending.places[folder] = blocks[:count_blocks(entries)]
    mending.bodies[folder] = entries


def mend_entries(mending):
    """Go through the folders from the root folder on, and take out the entries that are wrong."""
    at = 0
    while at < len(mending.met):
        number = mending.met[at]
        if mending.is_folder(number):
            entries = good_entries(mending, number)
            if entries != mending.bodies[number]:
                rewrite(mending, number, entries)
        at += 1


def mended_blocks(mending):
    """Return the disk with the nodes that were reached."""
    signs = [USED] * FIRST_DATA_BLOCK + [FREE] * (len(mending.blocks) - FIRST_DATA_BLOCK)
    slots = {}
    for number in mending.met:
        kind, owner, rights, _, _ = mending.slots[number]
        blocks = mending.places[number]
        slots[number] = (kind, owner, rights, len(mending.bodies[number]), extents_of(blocks))
        for block in blocks:
            signs[block] = USED
    return built_disk(signs, slots, mending.blocks)


def mended_disk(disk):
    """Return what mended returns, for what is known to be a disk."""
    mending = Mending(disk)
    mend_root(mending)
    mend_bodies(mending)
    mend_entries(mending)
    return mended_blocks(mending)


def mended(disk):
    """Return the disk that is mended."""
    check_disk(disk)
    return mended_disk(disk)


def is_lost(before, after):
    """Return whether a slot that was mended lost something, or was made."""
    if before is None or after is None:
        return before != after
    return before[0] != after[0] or before[3] != after[3]


def loss(disk):
    """Return the ascending list of the numbers of the slots that mending empties, or of which it changes more."""
    check_disk(disk)
    before = all_slots(disk)
    after = all_slots(mended_disk(disk))
    return [number for number in range(len(before)) if is_lost(before[number], after[number])]
