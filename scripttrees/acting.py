"""Users who make calls on tables."""

from scripttrees.calls import check_call, make
from scripttrees.errors import InvalidNumber, InvalidRights, InvalidSign
from scripttrees.making import walk
from scripttrees.names import end_of
from scripttrees.nodes import are_rights, is_number
from scripttrees.scripts import check_script
from scripttrees.tables import check_place, check_table, check_user
from scripttrees.tablestates import FreeState, TableState, has_right, table_from


def may(table, user, number, sign):
    """Return whether a user may read (sign "r") or write ("w") the node with a number."""
    check_table(table)
    check_user(user)
    found = [node for node in table if is_number(number) and node[0] == number]
    if not found:
        raise InvalidNumber("no node has this number")
    if sign not in ("r", "w"):
        raise InvalidSign("this is not a sign")
    return has_right(found[0], user, sign)


def act_on(state, table, call):
    """Make a call on the state of a table; return the result and the table after it."""
    result = make(state, call)
    if result != "ok":
        return result, table
    after = table_from(state)
    if after is None:
        return "full", table
    return "ok", after


def act(table, user, call):
    """Return the result of a call by a user, and the table after it."""
    check_table(table)
    check_user(user)
    check_call(call)
    return act_on(TableState(table, user), table, call)


def check_acting(table, user, script):
    """Raise an error if a table, a user or a script are none."""
    check_table(table)
    check_user(user)
    check_script(script)


def act_all(table, user, script):
    """Return the number of calls that succeeded, the last result, and the table at the end."""
    check_acting(table, user, script)
    for done in range(len(script)):
        result, table = act_on(TableState(table, user), table, script[done])
        if result != "ok":
            return done, result, table
    return len(script), "ok", table


def tables_along(table, user, script):
    """Return the list of the tables at the beginning and after each call that succeeded."""
    check_acting(table, user, script)
    tables = [table]
    for call in script:
        result, after = act_on(TableState(tables[-1], user), tables[-1], call)
        if result != "ok":
            break
        tables.append(after)
    return tables


def node_to_grant(state, path):
    """Return the result of walking to the node at a path, or to the root folder for "", and the node, or None."""
    if path == "":
        return "ok", state.nodes[state.root]
    result, folder = walk(state, path)
    if result != "ok":
        return result, None
    found = state.entry(folder, end_of(path))
    if found is None:
        return "missing", None
    return "ok", state.nodes[found]


def with_rights(node, rights):
    """Return a node with other rights."""
    number, kind, owner, _, body = node
    return number, kind, owner, rights, body


def check_granting(path, rights):
    """Raise an error if path leads to nothing on any table, or if rights are not rights."""
    check_place(path)
    if not are_rights(rights):
        raise InvalidRights("these are not rights")


def granted(table, user, path, rights):
    """Return what grant returns, for what is known to be right."""
    result, found = node_to_grant(TableState(table, user), path)
    if result != "ok":
        return result, table
    if found[2] != user:
        return "denied", table
    return "ok", tuple([with_rights(node, rights) if node == found else node for node in table])


def grant(table, user, path, rights):
    """Return the result of changing the rights of the node to which a path leads, and the table after it."""
    check_table(table)
    check_user(user)
    check_granting(path, rights)
    return granted(table, user, path, rights)


def new_numbers(table, after):
    """Return the list of the numbers of the nodes that are in the second table only."""
    numbers = [node[0] for node in table]
    return [node[0] for node in after if node[0] not in numbers]


def needed_rights(table, user, script):
    """Return the ascending list of the rights that a script asks of a user if each one is granted."""
    check_acting(table, user, script)
    rights = set()
    made = set()
    for call in script:
        state = FreeState(table, user)
        result, after = act_on(state, table, call)
        for number, sign in state.asked:
            if number not in made:
                rights.add((number, sign))
        if result != "ok":
            break
        # A number that the script gave to a node never belongs to a node of the beginning again.
        for number in new_numbers(table, after):
            made.add(number)
        table = after
    return sorted(rights)
