"""Limits for what users have."""

from scripttrees.acting import act_on, tables_along
from scripttrees.blocks import count_blocks
from scripttrees.calls import check_call
from scripttrees.errors import InvalidLimits
from scripttrees.nodes import is_user, is_within
from scripttrees.tables import check_table, check_user
from scripttrees.tablestates import TableState
from scripttrees.trees import is_ascending

MOST_NODES = 16
MOST_BLOCKS = 64


def is_limit(candidate):
    """Return whether candidate is the limits of one user."""
    if not isinstance(candidate, tuple) or len(candidate) != 3:
        return False
    user, nodes, blocks = candidate
    return is_user(user) and is_within(nodes, 0, MOST_NODES) and is_within(blocks, 0, MOST_BLOCKS)


def are_limits(candidate):
    """Return whether candidate is limits."""
    if not isinstance(candidate, tuple) or not all([is_limit(row) for row in candidate]):
        return False
    return is_ascending([row[0] for row in candidate])


def check_limits(limits):
    """Raise InvalidLimits if limits are not limits."""
    if not are_limits(limits):
        raise InvalidLimits("these are not limits")


def amounts(table, user):
    """Return what used returns, for what is known to be right."""
    bodies = [body for _, _, owner, _, body in table if owner == user]
    return len(bodies), sum([count_blocks(body) for body in bodies])


def used(table, user):
    """Return the number of the nodes of a user, and the sum of the blocks of their bodies."""
    check_table(table)
    check_user(user)
    return amounts(table, user)


def over(table, limits):
    """Return the ascending list of what users have more of than a limit."""
    check_table(table)
    check_limits(limits)
    found = []
    for user, most_nodes, most_blocks in limits:
        nodes, blocks = amounts(table, user)
        if blocks > most_blocks:
            found.append((user, "blocks"))
        if nodes > most_nodes:
            found.append((user, "nodes"))
    return found


def breaks_limit(before, after, limit):
    """Return whether a user has more than a limit, and more than before."""
    user, most_nodes, most_blocks = limit
    old_nodes, old_blocks = amounts(before, user)
    nodes, blocks = amounts(after, user)
    return nodes > max(most_nodes, old_nodes) or blocks > max(most_blocks, old_blocks)


def act_within(table, limits, user, call):
    """Return the result of a call by a user, "quota" if some user had too much then, and the table after it."""
    check_table(table)
    check_limits(limits)
    check_user(user)
    check_call(call)
    result, after = act_on(TableState(table, user), table, call)
    if any([breaks_limit(table, after, limit) for limit in limits]):
        return "quota", table
    return result, after


def least_limit(row):
    """Return the least limit with which an amount may become each of a row in turn."""
    return max([0] + [row[at + 1] for at in range(len(row) - 1) if row[at + 1] > row[at]])


def least_limits(table, user, script):
    """Return the least limits for a user with which a script gives the same as without limits."""
    rows = [amounts(after, user) for after in tables_along(table, user, script)]
    # A call keeps within both limits, or fails, whatever the other one is.
    return least_limit([nodes for nodes, _ in rows]), least_limit([blocks for _, blocks in rows])
