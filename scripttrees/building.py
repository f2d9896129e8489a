"""Trees that are built from what is to be in them."""


def merged(leaders, one, other):
    """Return the leaders when two paths are to lead to the same file; paths of one file have the same leader."""
    old = leaders[other]
    new = leaders[one]
    return {path: new if leaders[path] == old else leaders[path] for path in leaders}


def built_tree(folders, leaders):
    """Return the tree with some folders, and with empty files at the paths of which the leaders are told."""
    paths = {}
    for path in leaders:
        paths.setdefault(leaders[path], []).append(path)
    files = [(tuple(sorted(paths[leader])), ()) for leader in paths]
    return tuple(sorted(folders)), tuple(sorted(files))
