"""Trees: what they are, and what stands in them."""

from scripttrees.errors import InvalidTree, NoFile, NoFolder
from scripttrees.names import check_path, end_of, is_path, is_word, parent

MOST_PATHS = 100
MOST_WORDS = 20


def is_ascending(rows):
    """Return whether rows that can be compared are sorted without duplicates."""
    return all([rows[at] < rows[at + 1] for at in range(len(rows) - 1)])


def are_paths(candidate):
    """Return whether candidate is an ascending tuple of paths."""
    if not isinstance(candidate, tuple):
        return False
    return all([is_path(path) for path in candidate]) and is_ascending(candidate)


def are_words(candidate):
    """Return whether candidate is a tuple of words, not too many for a file."""
    if not isinstance(candidate, tuple) or len(candidate) > MOST_WORDS:
        return False
    return all([is_word(word) for word in candidate])


def is_file_row(candidate):
    """Return whether candidate is a tuple of the paths and the words of a file."""
    if not isinstance(candidate, tuple) or len(candidate) != 2:
        return False
    return are_paths(candidate[0]) and len(candidate[0]) > 0 and are_words(candidate[1])


def are_file_rows(candidate):
    """Return whether candidate is an ascending tuple of files."""
    if not isinstance(candidate, tuple):
        return False
    return all([is_file_row(row) for row in candidate]) and is_ascending(candidate)


def all_paths(tree):
    """Return the list of all paths of a tree, those of its folders first."""
    paths = list(tree[0])
    for row in tree[1]:
        paths.extend(list(row[0]))
    return paths


def fit_together(paths, folders):
    """Return whether no path occurs twice, and each one lies in one of the folders or in the root folder."""
    homes = {folder: True for folder in folders}
    homes[""] = True
    return len(set(paths)) == len(paths) and all([parent(path) in homes for path in paths])


def is_tree(candidate):
    """Return whether candidate is a tree within the bounds."""
    if not isinstance(candidate, tuple) or len(candidate) != 2:
        return False
    if not are_paths(candidate[0]) or not are_file_rows(candidate[1]):
        return False
    paths = all_paths(candidate)
    return len(paths) <= MOST_PATHS and fit_together(paths, candidate[0])


def check_tree(tree):
    """Raise InvalidTree if tree is not a tree within the bounds."""
    if not is_tree(tree):
        raise InvalidTree("this is not a tree")


def file_row(tree, path):
    """Return the tuple of the paths and the words of the file to which a path leads, or None."""
    for row in tree[1]:
        if path in row[0]:
            return row
    return None


def kind_in(tree, path):
    """Return what kind_at returns, for what are known to be a tree and a path."""
    if path in tree[0]:
        return "folder"
    if file_row(tree, path) is None:
        return "none"
    return "file"


def entry_names(tree, folder):
    """Return the ascending list of the names of the entries of what is known to be a folder, or ""."""
    return sorted([end_of(path) for path in all_paths(tree) if parent(path) == folder])


def sure_file_row(tree, path):
    """Return the row of the file to which a path leads; raise an error if there is none."""
    check_tree(tree)
    check_path(path)
    row = file_row(tree, path)
    if row is None:
        raise NoFile("the path does not lead to a file")
    return row


def kind_at(tree, path):
    """Return "folder", "file" or "none"."""
    check_tree(tree)
    check_path(path)
    return kind_in(tree, path)


def words_at(tree, path):
    """Return the tuple of the words of a file."""
    return sure_file_row(tree, path)[1]


def names_in(tree, folder):
    """Return the ascending list of the names of all entries of a folder, of the root folder if it is ""."""
    check_tree(tree)
    if folder != "":
        check_path(folder)
        if folder not in tree[0]:
            raise NoFolder("the path does not lead to a folder")
    return entry_names(tree, folder)


def paths_of(tree, path):
    """Return the ascending list of all paths of the file to which a path leads."""
    return list(sure_file_row(tree, path)[0])


def count_entries(tree):
    """Return the number of all paths of a tree."""
    check_tree(tree)
    return len(all_paths(tree))


def is_part(tree, other):
    """Return whether a tree consists of paths of another tree."""
    check_tree(tree)
    check_tree(other)
    if any([folder not in other[0] for folder in tree[0]]):
        return False
    rows = {path: row for row in tree[1] for path in row[0]}
    left = len(rows)
    for paths, words in other[1]:
        shared = tuple(path for path in paths if path in rows)
        if shared and rows[shared[0]] != (shared, words):
            return False
        left -= len(shared)
    return left == 0
