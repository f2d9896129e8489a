"""Tables of numbered nodes: what they are, and the trees that they show."""

from scripttrees.errors import InvalidPath, InvalidTable, InvalidTree, InvalidUser, TooLarge
from scripttrees.names import is_path, joined
from scripttrees.nodes import ALL_RIGHTS, KINDS, MOST_IN_BODY, MOST_NUMBER, are_items, are_rights, is_number, is_user
from scripttrees.nodes import reached
from scripttrees.states import State, tree_of
from scripttrees.tablestates import first_free, things_of
from scripttrees.trees import check_tree, entry_names, is_ascending, is_tree


def is_node(candidate):
    """Return whether candidate is a node."""
    if not isinstance(candidate, tuple) or len(candidate) != 5:
        return False
    number, kind, owner, rights, body = candidate
    if not is_number(number) or kind not in KINDS or not is_user(owner) or not are_rights(rights):
        return False
    return isinstance(body, tuple) and len(body) <= MOST_IN_BODY and are_items(body, kind)


def are_joined(nodes):
    """Return whether the entries of nodes lead to nodes, and to all of them, as they have to in a table."""
    bodies = {node[0]: node[4] for node in nodes if node[1] == "folder"}
    led = [entry[1] for body in bodies.values() for entry in body]
    if 0 in led or any([led.count(number) > 1 for number in bodies]):
        return False
    # Where all folders are reached, so is all that their entries lead to; nothing of it may be missing.
    return sorted(reached(bodies)) == [node[0] for node in nodes]


def is_table(candidate):
    """Return whether candidate is a table."""
    if not isinstance(candidate, tuple) or not candidate or not all([is_node(node) for node in candidate]):
        return False
    if candidate[0][:2] != (0, "folder") or not is_ascending([node[0] for node in candidate]):
        return False
    return are_joined(candidate)


def check_table(table):
    """Raise InvalidTable if table is not a table."""
    if not is_table(table):
        raise InvalidTable("this is not a table")


def check_user(user):
    """Raise InvalidUser if user is not a user."""
    if not is_user(user):
        raise InvalidUser("this is not a user")


def check_place(path):
    """Raise InvalidPath if path is neither a path nor "", which leads to the root folder."""
    if path != "" and not is_path(path):
        raise InvalidPath("this is neither a path nor empty")


def tree_in(table):
    """Return the tree of what is known to be a table, also if the tree is too large."""
    return tree_of(State(things_of(table)[0]))


def shown(table):
    """Return the tree of a table."""
    check_table(table)
    tree = tree_in(table)
    if not is_tree(tree):
        raise InvalidTree("the tree of the table is too large")
    return tree


def numbers_for(tree):
    """Return the dict of the numbers that the nodes of a tree get, by all their paths, and "" for the root folder."""
    firsts = {path: path for path in tree[0]}
    for paths, _ in tree[1]:
        for path in paths:
            firsts[path] = paths[0]
    nodes = sorted([path for path in firsts if firsts[path] == path])
    if len(nodes) > MOST_NUMBER:
        raise TooLarge("there are too many folders and files")
    numbers = {nodes[at]: at + 1 for at in range(len(nodes))}
    places = {path: numbers[firsts[path]] for path in firsts}
    places[""] = 0
    return places


def table_of(tree, owner):
    """Return the table of a tree in which all nodes have one owner, who and everybody may read and write them."""
    check_tree(tree)
    check_user(owner)
    numbers = numbers_for(tree)
    nodes = []
    for folder in [""] + list(tree[0]):
        entries = [(name, numbers[joined(folder, name)]) for name in entry_names(tree, folder)]
        nodes.append((numbers[folder], "folder", owner, ALL_RIGHTS, tuple(entries)))
    for paths, words in tree[1]:
        nodes.append((numbers[paths[0]], "file", owner, ALL_RIGHTS, words))
    if any([len(node[4]) > MOST_IN_BODY for node in nodes]):
        raise TooLarge("there are too many words or entries in one node")
    return tuple(sorted(nodes))


def number_at(table, path):
    """Return the number of the node to which a path leads, 0 for "", or None."""
    check_table(table)
    check_place(path)
    if path == "":
        return 0
    bodies = {node[0]: dict(node[4]) for node in table if node[1] == "folder"}
    number = 0
    for name in path.split("/"):
        if number not in bodies or name not in bodies[number]:
            return None
        number = bodies[number][name]
    return number


def free_number(table):
    """Return the least number from 1 to 15 that no node has, or None."""
    check_table(table)
    return first_free([node[0] for node in table])
