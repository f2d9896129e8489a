"""Trees that are built from what is to be in them."""

from scripttrees.names import FRESH_NAME

LETTERS = "abcdefghijklmnopqrstuvwxyz"


def fresh_name(number):
    """Return a name, another one for each number, that no call and no fact has; it is a word that no call has, too."""
    return FRESH_NAME + LETTERS[number // len(LETTERS)] + LETTERS[number % len(LETTERS)]


def merged(leaders, one, other):
    """Return the leaders when two paths are to lead to the same file; paths of one file have the same leader."""
    old = leaders[other]
    new = leaders[one]
    return {path: new if leaders[path] == old else leaders[path] for path in leaders}


def built_tree(folders, leaders):
    """Return the tree with some folders, and with empty files at the paths of which the leaders are told."""
    paths = {}
    for path in leaders:
        paths.setdefault(leaders[path], []).append(path)
    files = [(tuple(sorted(paths[leader])), ()) for leader in paths]
    return tuple(sorted(folders)), tuple(sorted(files))


def with_own_words(tree):
    """Return a tree with a word in each file that no other file has."""
    files = [(tree[1][at][0], (fresh_name(at),)) for at in range(len(tree[1]))]
    return tree[0], tuple(files)
