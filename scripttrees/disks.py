"""Disks of blocks."""

from scripttrees.blocks import LEAST_BLOCKS, MOST_BLOCKS, all_slots, are_blocks, blocks_in, check_disk, free_blocks
from scripttrees.errors import InvalidMany, InvalidNumber, InvalidSize, NoNode
from scripttrees.looker import check_sound
from scripttrees.nodes import is_number, is_within
from scripttrees.placing import blank, chosen, table_on, with_table
from scripttrees.tables import check_table


def is_disk(candidate):
    """Return whether candidate is a disk."""
    return are_blocks(candidate)


def blocks_of(disk, number):
    """Return the list of the blocks of the node with a number."""
    check_disk(disk)
    if not is_number(number):
        raise InvalidNumber("this is not a number of a node")
    slot = all_slots(disk)[number]
    if slot is None:
        raise NoNode("no node has this number")
    return blocks_in(slot)


def choose(disk, many):
    """Return the list of so many free blocks, in the order in which they are taken, or None if they are too few."""
    check_disk(disk)
    if not is_within(many, 0, MOST_BLOCKS):
        raise InvalidMany("this is not a number of blocks")
    return chosen(free_blocks(disk), many)


def count_free(disk):
    """Return the number of the free blocks."""
    check_disk(disk)
    return len(free_blocks(disk))


def check_size(size):
    """Raise InvalidSize if size is not a size of a disk."""
    if not is_within(size, LEAST_BLOCKS, MOST_BLOCKS):
        raise InvalidSize("this is not a size of a disk")


def stored(table, size):
    """Return the disk of so many blocks with a table."""
    check_table(table)
    check_size(size)
    return with_table(blank(size), table)


def loaded(disk):
    """Return the table of a disk."""
    check_disk(disk)
    check_sound(disk)
    return table_on(disk)


def count_pieces(disk):
    """Return the list of the numbers of extents of the nodes 0 to 15, 0 where there is no node."""
    check_disk(disk)
    return [0 if slot is None else len(slot[4]) for slot in all_slots(disk)]
