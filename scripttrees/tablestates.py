"""Tables while calls change them."""

from scripttrees.nodes import MOST_IN_BODY, MOST_NUMBER
from scripttrees.states import File, Folder, State

NEW_RIGHTS = "rwr-"


def first_free(numbers):
    """Return the least number from 1 on that a new node can get beside nodes with some numbers, or None."""
    for number in range(1, MOST_NUMBER + 1):
        if number not in numbers:
            return number
    return None


def has_right(node, user, sign):
    """Return whether a user may read (sign "r") or write ("w") a node."""
    _, _, owner, rights, _ = node
    if owner == user:
        return sign in rights[:2]
    return sign in rights[2:]


def things_of(table):
    """Return the dict of the Files and Folders that stand for the nodes of a table, by their numbers."""
    things = {}
    for number, kind, _, _, body in table:
        things[number] = Folder() if kind == "folder" else File(body)
    for number, kind, _, _, body in table:
        if kind == "folder":
            for name, target in body:
                things[number].entries[name] = things[target]
    return things


class TableState(State):
    """The table at one moment, of which a user makes calls."""

    def __init__(self, table, actor):
        things = things_of(table)
        super().__init__(things[0])
        self.actor = actor
        # The nodes of the table; what the call made has none yet.
        self.nodes = {things[node[0]]: node for node in table}

    def allows(self, node, sign):
        """Return whether the user may read (sign "r") or write ("w") a File or a Folder."""
        return has_right(self.nodes[node], self.actor, sign)


class FreeState(TableState):
    """The table at one moment, of which a user makes calls who gets each right that is asked for."""

    def __init__(self, table, actor):
        super().__init__(table, actor)
        # The numbers of the nodes and the signs of all rights that were asked for.
        self.asked = []

    def allows(self, node, sign):
        """Return True, and keep in mind what was asked for."""
        self.asked.append((self.nodes[node][0], sign))
        return True


def things_in(state):
    """Return the list of all Files and Folders to which a path leads, and the root folder."""
    found = {state.root: True}
    left = [state.root]
    while left:
        thing = left.pop()
        if isinstance(thing, Folder):
            for entry in thing.entries.values():
                if entry is not None:
                    found[entry] = True
                    left.append(entry)
    return list(found)


def numbers_in(state):
    """Return the dict of the numbers of all Files and Folders of a state, or None if one would be missing."""
    numbers = {}
    taken = [node[0] for node in state.nodes.values()]
    for thing in things_in(state):
        if thing in state.nodes:
            numbers[thing] = state.nodes[thing][0]
        else:
            numbers[thing] = first_free(taken)
            taken.append(numbers[thing])
    if None in taken:
        return None
    return numbers


def node_of(state, thing, numbers):
    """Return the node for a File or a Folder; what is new belongs to the user who makes the call."""
    owner, rights = state.actor, NEW_RIGHTS
    if thing in state.nodes:
        _, _, owner, rights, _ = state.nodes[thing]
    if isinstance(thing, File):
        return numbers[thing], "file", owner, rights, thing.words
    entries = [(name, numbers[entry]) for name, entry in thing.entries.items() if entry is not None]
    return numbers[thing], "folder", owner, rights, tuple(sorted(entries))


def table_from(state):
    """Return the table for which a state stands, or None if a number is missing or a body is too long."""
    numbers = numbers_in(state)
    if numbers is None:
        return None
    nodes = [node_of(state, thing, numbers) for thing in numbers]
    if any([len(node[4]) > MOST_IN_BODY for node in nodes]):
        return None
    return tuple(sorted(nodes))
