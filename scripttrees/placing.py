"""Placing nodes on the blocks of a disk."""

from scripttrees.blocks import FIRST_DATA_BLOCK, FREE, HELD, IN_BLOCK, USED, blocks_in, built_disk, count_blocks
from scripttrees.blocks import extents_of, free_blocks, items_in, slots_of
from scripttrees.errors import NoRoom


def rows_of(blocks):
    """Return the list of the rows of neighbouring blocks among ascending ones."""
    return [[start + at for at in range(count)] for start, count in extents_of(blocks)]


def chosen(free, many):
    """Return the list of so many of some ascending free blocks, in the order in which they are taken, or None."""
    if many > len(free):
        return None
    taken = []
    rows = rows_of(free)
    while len(taken) < many:
        left = many - len(taken)
        fitting = [row for row in rows if len(row) >= left]
        row = fitting[0] if fitting else max(rows, key=len)
        taken.extend(row[:left])
        rows = [other for other in rows if other != row]
    return taken


def laid_over(part, items):
    """Return the tuple of items in which those of a part stand over the first ones."""
    return tuple(part) + tuple(items[len(part):])


def part_for(body, at):
    """Return the items of a body that stand in the block of its node that has a number, counted from 0 on."""
    return body[at * IN_BLOCK:(at + 1) * IN_BLOCK]


class Ground:
    """The blocks of a disk while nodes are placed on them."""

    def __init__(self, blocks, spare):
        self.blocks = list(blocks)
        # The blocks that can be chosen, ascending.
        self.spare = spare
        # The blocks that were chosen so far, and those that were given back and are held.
        self.gone = []
        self.held = []

    def may_change(self, block):
        """Return whether the value of a block that a node keeps may change."""
        return True

    def give_back(self, blocks):
        """Take blocks that a node does not keep."""
        self.held.extend(blocks)

    def gain(self, many):
        """Choose so many blocks, and return the list of them."""
        blocks = chosen(self.spare, many)
        if blocks is None:
            raise NoRoom("the free blocks are too few")
        self.spare = [block for block in self.spare if block not in blocks]
        self.gone.extend(blocks)
        return blocks


def written_on(ground, body, kept):
    """Write a body over blocks that its node keeps and over chosen ones; return the list of all blocks of the node."""
    values = [laid_over(part_for(body, at), ground.blocks[kept[at]]) for at in range(len(kept))]
    moved = [at for at in range(len(kept)) if values[at] != ground.blocks[kept[at]] and not ground.may_change(kept[at])]
    more = max(0, count_blocks(body) - len(kept))
    fresh = ground.gain(len(moved) + more)
    blocks = list(kept)
    for at, block in zip(moved, fresh):
        blocks[at] = block
    for at in range(len(kept)):
        ground.blocks[blocks[at]] = values[at]
    for block in fresh[len(moved):]:
        ground.blocks[block] = laid_over(part_for(body, len(blocks)), ground.blocks[block])
        blocks.append(block)
    return blocks


def kept_blocks(old, new, blocks):
    """Return the list of those of its blocks that a node keeps when it changes; None stands for no node."""
    if old is None or new is None or old[1] != new[1]:
        return []
    if old[4] == new[4]:
        return blocks
    return blocks[:count_blocks(new[4])]


def place(ground, places, table, after):
    """Place the nodes of a table where another table is; return the dict of their blocks by their numbers.

    The places are the dict of the blocks of the nodes of the table that is there.
    """
    old = {node[0]: node for node in table}
    new = {node[0]: node for node in after}
    found = {}
    for number in sorted(set(old) | set(new)):
        blocks = places.get(number, [])
        kept = kept_blocks(old.get(number), new.get(number), blocks)
        if number in new:
            found[number] = written_on(ground, new[number][4], kept)
        # Only now, as a node does not get what it gives back itself.
        ground.give_back(blocks[len(kept):])
    return found


def places_on(disk):
    """Return the dict of the blocks of the nodes of a disk by their numbers."""
    return {number: blocks_in(slot) for number, slot in slots_of(disk).items()}


def table_on(disk):
    """Return the table of what is known to be a sound disk, and an empty tuple for a disk without nodes."""
    nodes = []
    for number, slot in slots_of(disk).items():
        kind, owner, rights, length, _ = slot
        nodes.append((number, kind, owner, rights, tuple(items_in(disk, blocks_in(slot))[:length])))
    return tuple(nodes)


def new_map(disk, ground):
    """Return the list of the signs of the map of a disk behind what was done to its blocks."""
    signs = list(disk[0])
    for block in ground.held:
        signs[block] = HELD
    for block in ground.gone:
        signs[block] = USED
    return signs


def with_table(disk, table):
    """Return a disk that is sound, or has no nodes, behind the writes that bring it to a table."""
    ground = Ground(disk, free_blocks(disk))
    places = place(ground, places_on(disk), table_on(disk), table)
    slots = {}
    for number, kind, owner, rights, body in table:
        slots[number] = (kind, owner, rights, len(body), extents_of(places[number]))
    return built_disk(new_map(disk, ground), slots, ground.blocks)


def blank(size):
    """Return the disk of so many blocks that has no nodes."""
    signs = USED * FIRST_DATA_BLOCK + FREE * (size - FIRST_DATA_BLOCK)
    return built_disk([signs], {}, [("",) * IN_BLOCK] * size)
