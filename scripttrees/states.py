"""Trees while calls change them."""

from scripttrees.names import end_of, joined, parent


class File:
    """A file; every path that leads to it leads to this one object."""

    def __init__(self, words):
        self.words = words


class Folder:
    """A folder: its entries by their names, each a File or a Folder, or None where nothing is any more."""

    def __init__(self):
        self.entries = {}


class State:
    """The tree at one moment of a script."""

    def __init__(self, root):
        self.root = root

    def entry(self, folder, name):
        """Return the File or the Folder with a name in a folder, or None."""
        return folder.entries.get(name)

    def is_empty(self, folder):
        """Return whether a folder has no entry."""
        return all([entry is None for entry in folder.entries.values()])

    def are_same(self, one, other):
        """Return whether two paths that lead to these files lead to the same file."""
        return one == other

    def allows(self, node, sign):
        """Return whether a File or a Folder may be read (sign "r") or written ("w")."""
        # Nobody owns anything in a tree.
        return True


def state_of(tree):
    """Return the state that stands for a tree."""
    root = Folder()
    folders = {"": root}
    # A folder comes before those in it, as its path is a beginning of theirs.
    for path in tree[0]:
        folders[path] = Folder()
        folders[parent(path)].entries[end_of(path)] = folders[path]
    for paths, words in tree[1]:
        found = File(words)
        for path in paths:
            folders[parent(path)].entries[end_of(path)] = found
    return State(root)


def tree_of(state):
    """Return the tree for which a state stands."""
    folders = []
    paths = {}
    left = [("", state.root)]
    while left:
        place, folder = left.pop()
        for name, entry in folder.entries.items():
            path = joined(place, name)
            if isinstance(entry, Folder):
                folders.append(path)
                left.append((path, entry))
            elif entry is not None:
                paths.setdefault(entry, []).append(path)
    files = [(tuple(sorted(paths[found])), found.words) for found in paths]
    return tuple(sorted(folders)), tuple(sorted(files))
