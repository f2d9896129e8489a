"""Names, words and paths."""

from scripttrees.errors import InvalidPath

LONGEST_NAME = 3
LONGEST_WORD = 4
MOST_NAMES_IN_CALL = 3
MOST_PLACES = 6
# No call and no fact has a path with this name.
FRESH_NAME = "z"


def is_letters(candidate, most):
    """Return whether candidate is a string of 1 to most lowercase letters a to z."""
    if not isinstance(candidate, str) or len(candidate) > most:
        return False
    # Other alphabets have lowercase letters, too.
    return candidate.isascii() and candidate.isalpha() and candidate.islower()


def is_name(candidate):
    """Return whether candidate is a name."""
    return is_letters(candidate, LONGEST_NAME)


def is_word(candidate):
    """Return whether candidate is a word."""
    return is_letters(candidate, LONGEST_WORD)


def is_path(candidate):
    """Return whether candidate is a path."""
    return isinstance(candidate, str) and all([is_name(name) for name in candidate.split("/")])


def is_call_name(name):
    """Return whether calls and facts may have a name."""
    return is_name(name) and not name.startswith("z")


def is_call_word(candidate):
    """Return whether candidate is a word that calls may have."""
    return is_word(candidate) and not candidate.startswith("z")


def is_call_path(candidate):
    """Return whether candidate is a path that calls and facts may have."""
    if not isinstance(candidate, str):
        return False
    names = candidate.split("/")
    return len(names) <= MOST_NAMES_IN_CALL and all([is_call_name(name) for name in names])


def check_path(path):
    """Raise InvalidPath if path is not a path."""
    if not is_path(path):
        raise InvalidPath("this is not a path")


def parent(path):
    """Return what folder_of returns, for what is known to be a path."""
    return path.rpartition("/")[0]


def end_of(path):
    """Return what last_name returns, for what is known to be a path."""
    return path.rpartition("/")[2]


def joined(folder, name):
    """Return the path of the entry with a name in a folder, the root folder if it is ""."""
    if folder == "":
        return name
    return folder + "/" + name


def way_to(path):
    """Return what beginnings returns, for what is known to be a path."""
    names = path.split("/")
    return ["/".join(names[:many]) for many in range(1, len(names))]


def lies_below(path, folder):
    """Return what is_below returns, for what are known to be paths."""
    return path.startswith(folder + "/")


def with_beginnings(paths):
    """Return the ascending list of some paths and all their beginnings, none twice."""
    places = set()
    for path in paths:
        places.add(path)
        for folder in way_to(path):
            places.add(folder)
    return sorted(places)


def have_few_places(paths):
    """Return whether some paths with all their beginnings are few enough to be judged together."""
    return len(with_beginnings(paths)) <= MOST_PLACES


def folder_of(path):
    """Return the path without its last name, "" if it has one name only."""
    check_path(path)
    return parent(path)


def last_name(path):
    """Return the last name of a path."""
    check_path(path)
    return end_of(path)


def beginnings(path):
    """Return the list of the paths of all folders on the way to a path, the shortest one first."""
    check_path(path)
    return way_to(path)


def is_below(path, folder):
    """Return whether path has folder as one of its beginnings."""
    check_path(path)
    check_path(folder)
    return lies_below(path, folder)
