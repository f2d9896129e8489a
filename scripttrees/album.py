"""Snapshots that share blocks."""

from scripttrees.blocks import FIRST_DATA_BLOCK
from scripttrees.disks import stored
from scripttrees.errors import Exists, InvalidName, NoSnapshot
from scripttrees.names import is_name
from scripttrees.placing import Ground, place, places_on
from scripttrees.tables import check_table


class View:
    """A table that is on the blocks of an album: the table, and the blocks of its nodes by their numbers."""

    def __init__(self, nodes, places):
        self.nodes = nodes
        self.places = places


class SharedGround(Ground):
    """The blocks of an album while nodes are placed on them, some of which snapshots have."""

    def __init__(self, blocks, spare, fixed):
        super().__init__(blocks, spare)
        # The dict, with values True, of the blocks that snapshots have.
        self.fixed = fixed

    def may_change(self, block):
        """Return whether the value of a block that a node keeps may change."""
        return block not in self.fixed

    def give_back(self, blocks):
        """Take blocks that a node does not keep; those that no snapshot has can be chosen from now on."""
        self.spare = sorted(self.spare + [block for block in blocks if block not in self.fixed])


def blocks_had(views):
    """Return the dict, with values True, of the blocks that some views have."""
    return {block: True for view in views for blocks in view.places.values() for block in blocks}


class Album:
    """A disk with a table that can be kept as it is at some moments."""

    def __init__(self, table, size):
        disk = stored(table, size)
        self.blocks = disk
        self.present = View(table, places_on(disk))
        # The views of the snapshots by their names.
        self.views = {}

    def table(self):
        """Return the present table."""
        return self.present.nodes

    def taken(self):
        """Return the ascending list of the names of the snapshots."""
        return sorted(self.views)

    def spare_blocks(self):
        """Return the ascending list of the blocks that neither the present table nor a snapshot has."""
        had = blocks_had([self.present] + list(self.views.values()))
        return [block for block in range(FIRST_DATA_BLOCK, len(self.blocks)) if block not in had]

    def free(self):
        """Return the number of the blocks that neither the present table nor a snapshot has."""
        return len(self.spare_blocks())

    def change(self, table):
        """Bring the disk to another table; return the number of the blocks that were chosen."""
        check_table(table)
        ground = SharedGround(self.blocks, self.spare_blocks(), blocks_had(list(self.views.values())))
        places = place(ground, self.present.places, self.present.nodes, table)
        self.blocks = ground.blocks
        self.present = View(table, places)
        return len(ground.gone)

    def view(self, name):
        """Return the view of a snapshot."""
        if not is_name(name) or name not in self.views:
            raise NoSnapshot("no snapshot has this name")
        return self.views[name]

    def take(self, name):
        """Keep the present table as a snapshot."""
        if not is_name(name):
            raise InvalidName("this is not a name")
        if name in self.views:
            raise Exists("a snapshot has this name")
        # A view is never changed, so that several may be the same.
        self.views[name] = self.present

    def drop(self, name):
        """Forget a snapshot; return the number of the blocks that became free."""
        many = self.alone(name)
        self.views.pop(name)
        return many

    def snapshot(self, name):
        """Return the table of a snapshot."""
        return self.view(name).nodes

    def alone(self, name):
        """Return the number of the blocks that only one snapshot has."""
        view = self.view(name)
        others = [self.views[other] for other in self.views if other != name]
        shared = blocks_had([self.present] + others)
        return len([block for block in blocks_had([view]) if block not in shared])

    def go_back(self, name):
        """Make the table of a snapshot the present one again; return the number of the blocks that became free."""
        view = self.view(name)
        before = self.free()
        self.present = view
        return self.free() - before
