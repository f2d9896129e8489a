"""Scripts as texts, and trees as lines."""

from scripttrees.errors import ParseError
from scripttrees.scripts import check_script, is_script
from scripttrees.trees import check_tree, is_tree


def call_text(call):
    """Return the text of what is known to be a call."""
    return " ".join(call)


def script_text(script):
    """Return the text of a script."""
    check_script(script)
    return "; ".join([call_text(call) for call in script])


def read_script(text):
    """Return the script whose text is text."""
    if not isinstance(text, str):
        raise ParseError("this is not a string")
    script = ()
    if text != "":
        script = tuple(tuple(part.split(" ")) for part in text.split("; "))
    if not is_script(script):
        raise ParseError("this is not the text of a script")
    return script


def file_line(path, paths, words):
    """Return the line for one of the paths of a file."""
    line = " ".join([path + ":"] + list(words))
    if path == paths[0]:
        return line
    return line + " = " + paths[0]


def lines_of(tree):
    """Return what tree_lines returns, for what is known to be a tree."""
    lines = {folder: folder + "/" for folder in tree[0]}
    for paths, words in tree[1]:
        for path in paths:
            lines[path] = file_line(path, paths, words)
    return [lines[path] for path in sorted(lines)]


def tree_lines(tree):
    """Return the list of one line for each path of a tree."""
    check_tree(tree)
    return lines_of(tree)


def guessed_tree(lines):
    """Return the only tree that may have these lines; if none has them, it may be anything like a tree."""
    folders = []
    paths = {}
    words = {}
    for line in lines:
        if line.endswith("/"):
            folders.append(line[:-1])
            continue
        path, _, rest = line.partition(":")
        said, further, first = rest.partition(" = ")
        if not further:
            first = path
        paths.setdefault(first, []).append(path)
        words[first] = tuple(said.split(" ")[1:])
    # Where lines are in their order, all this is in order, too.
    return tuple(folders), tuple([(tuple(paths[first]), words[first]) for first in paths])


def read_tree(lines):
    """Return the tree whose lines these are."""
    if not isinstance(lines, list) or not all([isinstance(line, str) for line in lines]):
        raise ParseError("this is not a list of strings")
    tree = guessed_tree(lines)
    # The guess is lenient; its lines tell whether each sign of the given ones was right.
    if not is_tree(tree) or lines_of(tree) != lines:
        raise ParseError("these are not the lines of a tree")
    return tree
