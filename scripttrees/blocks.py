"""What disks consist of, and how a disk is read and put together."""

from scripttrees.errors import InvalidDisk
from scripttrees.names import is_word
from scripttrees.nodes import KINDS, MOST_IN_BODY, MOST_NUMBER, are_rights, is_entry, is_user, is_within

LEAST_BLOCKS = 12
MOST_BLOCKS = 40
# The number of the slots of a table block, and of the items of a data block.
IN_BLOCK = 4
FIRST_TABLE_BLOCK = 1
FIRST_DATA_BLOCK = 5
USED = "#"
FREE = "."
HELD = "h"
SIGNS = ("#", ".", "h")


def is_map(candidate, size):
    """Return whether candidate is the map of a disk of so many blocks."""
    return isinstance(candidate, str) and len(candidate) == size and all([sign in SIGNS for sign in candidate])


def is_extent(candidate):
    """Return whether candidate is an extent."""
    if not isinstance(candidate, tuple) or len(candidate) != 2:
        return False
    return is_within(candidate[0], 0, MOST_BLOCKS - 1) and is_within(candidate[1], 1, MOST_BLOCKS)


def is_slot(candidate):
    """Return whether candidate is what a slot may have."""
    if candidate is None:
        return True
    if not isinstance(candidate, tuple) or len(candidate) != 5:
        return False
    kind, owner, rights, length, extents = candidate
    if kind not in KINDS or not is_user(owner) or not are_rights(rights) or not is_within(length, 0, MOST_IN_BODY):
        return False
    return isinstance(extents, tuple) and all([is_extent(extent) for extent in extents])


def is_table_block(candidate):
    """Return whether candidate is a table block."""
    if not isinstance(candidate, tuple) or len(candidate) != IN_BLOCK:
        return False
    return all([is_slot(slot) for slot in candidate])


def is_item(candidate):
    """Return whether candidate is an item of a data block."""
    return candidate == "" or is_word(candidate) or is_entry(candidate)


def is_data_block(candidate):
    """Return whether candidate is a data block."""
    if not isinstance(candidate, tuple) or len(candidate) != IN_BLOCK:
        return False
    return all([is_item(item) for item in candidate])


def is_block(candidate, block, size):
    """Return whether candidate is what the block with a number may be on a disk of so many blocks."""
    if block < FIRST_TABLE_BLOCK:
        return is_map(candidate, size)
    if block < FIRST_DATA_BLOCK:
        return is_table_block(candidate)
    return is_data_block(candidate)


def are_blocks(candidate):
    """Return what is_disk returns."""
    if not isinstance(candidate, tuple) or not LEAST_BLOCKS <= len(candidate) <= MOST_BLOCKS:
        return False
    return all([is_block(candidate[block], block, len(candidate)) for block in range(len(candidate))])


def check_disk(disk):
    """Raise InvalidDisk if disk is not a disk."""
    if not are_blocks(disk):
        raise InvalidDisk("this is not a disk")


def all_slots(disk):
    """Return the list of the slots of a disk, in the order of the numbers of their nodes."""
    return [slot for block in disk[FIRST_TABLE_BLOCK:FIRST_DATA_BLOCK] for slot in block]


def slots_of(disk):
    """Return the dict of the slots of a disk that are not None, by the numbers of their nodes."""
    slots = all_slots(disk)
    return {number: slots[number] for number in range(len(slots)) if slots[number] is not None}


def blocks_in(slot):
    """Return the list of the blocks of the node in a slot, also of those that the disk does not have."""
    return [start + at for start, count in slot[4] for at in range(count)]


def items_in(blocks, numbers):
    """Return the list of the items of the data blocks with some numbers, in turn."""
    return [item for number in numbers for item in blocks[number]]


def count_blocks(body):
    """Return the number of the blocks that a body needs."""
    return (len(body) + IN_BLOCK - 1) // IN_BLOCK


def extents_of(numbers):
    """Return the tuple of the extents of the blocks with some numbers; none of them follows another without a gap."""
    rows = []
    for number in numbers:
        if rows and rows[-1][0] + rows[-1][1] == number:
            rows[-1] = (rows[-1][0], rows[-1][1] + 1)
        else:
            rows.append((number, 1))
    return tuple(rows)


def free_blocks(disk):
    """Return the ascending list of the free blocks of a disk."""
    return [block for block in range(FIRST_DATA_BLOCK, len(disk)) if disk[0][block] == FREE]


def freed(disk):
    """Return a disk with all held blocks free."""
    return (disk[0].replace(HELD, FREE),) + disk[1:]


def built_disk(signs, slots, blocks):
    """Return the disk with some signs in its map and some slots, by their numbers, and with the data blocks of a list.

    The list has further blocks before the data blocks, as a disk has.
    """
    rows = [tuple([slots.get(at + more) for more in range(IN_BLOCK)]) for at in range(0, MOST_NUMBER + 1, IN_BLOCK)]
    return tuple(["".join(signs)] + rows + list(blocks[FIRST_DATA_BLOCK:]))
