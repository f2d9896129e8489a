"""Disks of blocks."""

from scripttrees.errors import InvalidDisk
from scripttrees.names import is_word
from scripttrees.nodes import KINDS, MOST_IN_BODY, MOST_NUMBER, are_rights, is_entry, is_user, is_within

LEAST_BLOCKS = 12
MOST_BLOCKS = 40
# The number of the slots of a table block, and of the items of a data block.
IN_BLOCK = 4
FIRST_TABLE_BLOCK = 1
FIRST_DATA_BLOCK = 5
SIGNS = ("#", ".", "h")


def is_map(candidate, size):
    """Return whether candidate is the map of a disk of so many blocks."""
    return isinstance(candidate, str) and len(candidate) == size and all([sign in SIGNS for sign in candidate])


def is_extent(candidate):
    """Return whether candidate is an extent."""
    if not isinstance(candidate, tuple) or len(candidate) != 2:
        return False
    return is_within(candidate[0], 0, MOST_BLOCKS - 1) and is_within(candidate[1], 1, MOST_BLOCKS)


def is_slot(candidate):
    """Return whether candidate is what a slot may have."""
    if candidate is None:
        return True
    if not isinstance(candidate, tuple) or len(candidate) != 5:
        return False
    kind, owner, rights, length, extents = candidate
    if kind not in KINDS or not is_user(owner) or not are_rights(rights) or not is_within(length, 0, MOST_IN_BODY):
        return False
    return isinstance(extents, tuple) and all([is_extent(extent) for extent in extents])


def is_table_block(candidate):
    """Return whether candidate is a table block."""
    if not isinstance(candidate, tuple) or len(candidate) != IN_BLOCK:
        return False
    return all([is_slot(slot) for slot in candidate])


def is_item(candidate):
    """Return whether candidate is an item of a data block."""
    return candidate == "" or is_word(candidate) or is_entry(candidate)


def is_data_block(candidate):
    """Return whether candidate is a data block."""
    if not isinstance(candidate, tuple) or len(candidate) != IN_BLOCK:
        return False
    return all([is_item(item) for item in candidate])


def is_disk(candidate):
    """Return whether candidate is a disk."""
    if not isinstance(candidate, tuple) or not LEAST_BLOCKS <= len(candidate) <= MOST_BLOCKS:
        return False
    if not is_map(candidate[0], len(candidate)):
        return False
    if not all([is_table_block(block) for block in candidate[FIRST_TABLE_BLOCK:FIRST_DATA_BLOCK]]):
        return False
    return all([is_data_block(block) for block in candidate[FIRST_DATA_BLOCK:]])


def check_disk(disk):
    """Raise InvalidDisk if disk is not a disk."""
    if not is_disk(disk):
        raise InvalidDisk("this is not a disk")


def slots_of(disk):
    """Return the dict of the slots of a disk that are not None, by the numbers of their nodes."""
    slots = [slot for block in disk[FIRST_TABLE_BLOCK:FIRST_DATA_BLOCK] for slot in block]
    return {number: slots[number] for number in range(MOST_NUMBER + 1) if slots[number] is not None}


def blocks_in(slot):
    """Return the list of the blocks of the node in a slot, also of those that the disk does not have."""
    return [start + at for start, count in slot[4] for at in range(count)]


def items_in(disk, blocks):
    """Return the list of the items of some data blocks, in turn."""
    return [item for block in blocks for item in disk[block]]
