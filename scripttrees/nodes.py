"""What nodes of tables and of disks consist of."""

from scripttrees.names import is_name, is_word
from scripttrees.trees import is_ascending

USERS = ("a", "b", "c", "d")
KINDS = ("folder", "file")
ALL_RIGHTS = "rwrw"
MOST_NUMBER = 15
MOST_IN_BODY = 16


def is_within(candidate, least, most):
    """Return whether candidate is an integer from least to most."""
    return isinstance(candidate, int) and not isinstance(candidate, bool) and least <= candidate <= most


def is_number(candidate):
    """Return whether candidate is a number that nodes can have."""
    return is_within(candidate, 0, MOST_NUMBER)


def is_user(candidate):
    """Return whether candidate is a user."""
    return candidate in USERS


def are_rights(candidate):
    """Return whether candidate is rights."""
    if not isinstance(candidate, str) or len(candidate) != len(ALL_RIGHTS):
        return False
    return all([candidate[at] in (ALL_RIGHTS[at], "-") for at in range(len(ALL_RIGHTS))])


def is_entry(candidate):
    """Return whether candidate is an entry of a folder."""
    if not isinstance(candidate, tuple) or len(candidate) != 2:
        return False
    return is_name(candidate[0]) and is_number(candidate[1])


def are_items(rows, kind):
    """Return whether rows, however many, are words if kind is "file", and the entries of one folder otherwise."""
    if kind == "file":
        return all([is_word(row) for row in rows])
    return all([is_entry(row) for row in rows]) and is_ascending([row[0] for row in rows])


def reached(bodies):
    """Return the dict, with values True, of the numbers that are reached from the number 0 by entries.

    The bodies are those of the folders, by their numbers.
    """
    found = {0: True}
    left = [0]
    while left:
        folder = left.pop()
        for _, number in bodies.get(folder, ()):
            if number not in found:
                found[number] = True
                left.append(number)
    return found
