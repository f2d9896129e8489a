"""Writes that bring a disk to another table."""

from scripttrees.blocks import check_disk, freed, is_block
from scripttrees.errors import InvalidWrites
from scripttrees.looker import check_sound
from scripttrees.nodes import is_within
from scripttrees.placing import places_on, with_table
from scripttrees.tables import check_table


def changes(disk, after, table):
    """Return the writes that make a disk another one, on which a table is, as writes_for returns them."""
    places = places_on(after)
    of_files = {block: True for node in table if node[1] == "file" for block in places[node[0]]}
    contents = []
    names = []
    for block in range(len(disk)):
        if disk[block] != after[block]:
            rows = contents if block in of_files else names
            rows.append((block, after[block]))
    return contents, names


def check_bringing(disk, table):
    """Raise an error if a disk cannot be brought to a table, whatever is free on it."""
    check_disk(disk)
    check_sound(disk)
    check_table(table)


def writes_for(disk, table):
    """Return the lists of the writes of contents and of names that bring a disk to a table."""
    check_bringing(disk, table)
    return changes(disk, with_table(disk, table), table)


def is_write(candidate, size):
    """Return whether candidate is a block of a disk of so many blocks, and a value that this block may have."""
    if not isinstance(candidate, tuple) or len(candidate) != 2 or not is_within(candidate[0], 0, size - 1):
        return False
    return is_block(candidate[1], candidate[0], size)


def written(disk, writes):
    """Return what apply_writes returns, for what are known to be a disk and writes for it."""
    blocks = list(disk)
    for block, value in writes:
        blocks[block] = value
    return tuple(blocks)


def apply_writes(disk, writes):
    """Return the disk with the values of a list of writes in their blocks."""
    check_disk(disk)
    if not isinstance(writes, list) or not all([is_write(row, len(disk)) for row in writes]):
        raise InvalidWrites("these are not writes for this disk")
    return written(disk, writes)


def flushed(disk):
    """Return the disk with all held blocks free."""
    check_disk(disk)
    return freed(disk)


def brought_to(disk, table):
    """Return the disk after all writes that bring it to a table."""
    check_bringing(disk, table)
    return with_table(disk, table)
