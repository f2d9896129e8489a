"""Scripts that are cut off by a crash."""

from scripttrees.acting import check_acting, tables_along
from scripttrees.crashes import FLUSH, all_found_disks, check_mode, sound_tables
from scripttrees.disks import check_size
from scripttrees.errors import InvalidFlushes, NoRoom, TooMany
from scripttrees.looker import faults_of
from scripttrees.nodes import is_within
from scripttrees.parts import parts_in_order
from scripttrees.placing import blank, table_on, with_table
from scripttrees.scripts import check_script
from scripttrees.tables import check_table, check_user, tree_in
from scripttrees.trees import is_ascending


def are_flushes(candidate, script):
    """Return whether candidate is flushes for a script."""
    if not isinstance(candidate, tuple) or not all([is_within(at, 0, len(script) - 1) for at in candidate]):
        return False
    return is_ascending(candidate)


def check_flushes(flushes, script):
    """Raise InvalidFlushes if flushes are not flushes for a script."""
    if not are_flushes(flushes, script):
        raise InvalidFlushes("these are not flushes for this script")


def with_flushes(tables, flushes):
    """Return the dealings for the tables along a script."""
    dealings = []
    for at in range(len(tables) - 1):
        dealings.append(tables[at + 1])
        if at in flushes:
            dealings.append(FLUSH)
    return dealings


def dealings_of(table, user, script, flushes):
    """Return the tables behind each call of a script that succeeds, with the flushes."""
    check_acting(table, user, script)
    check_flushes(flushes, script)
    return with_flushes(tables_along(table, user, script), flushes)


def check_run(table, size, user, script):
    """Raise an error if a script cannot be run by a user on a table that is on a disk of a size."""
    check_table(table)
    check_size(size)
    check_user(user)
    check_script(script)


def disks_left(tables, size, flushes, mode):
    """Return the list of the disks that can be found where a script was cut off that leads along some tables."""
    start = with_table(blank(size), tables[0])
    return all_found_disks(start, with_flushes(tables, flushes), mode)


def trees_found(table, size, user, script, flushes, mode):
    """Return the ascending list of the trees of the tables that can be found behind a crash, none twice."""
    check_run(table, size, user, script)
    check_flushes(flushes, script)
    check_mode(mode)
    disks = disks_left(tables_along(table, user, script), size, flushes, mode)
    return sorted({tree_in(found) for found in sound_tables(disks)})


def are_lost(tables, size, flushes, mode):
    """Return whether a disk can be found that is not sound, or whose tree is not that of one of the tables."""
    trees = [tree_in(table) for table in tables]
    for disk in disks_left(tables, size, flushes, mode):
        if faults_of(disk) or tree_in(table_on(disk)) not in trees:
            return True
    return False


def can_lose(table, size, user, script, flushes, mode):
    """Return whether a crash can leave something else than a sound disk with one of the trees along a script."""
    check_run(table, size, user, script)
    check_flushes(flushes, script)
    check_mode(mode)
    return are_lost(tables_along(table, user, script), size, flushes, mode)


def are_safe(tables, size, flushes, mode):
    """Return whether flushes can be done, and nothing is lost with them."""
    try:
        return not are_lost(tables, size, flushes, mode)
    except (NoRoom, TooMany):
        return False


def fewest_flushes(table, size, user, script, mode):
    """Return the first of the shortest flushes with which nothing can be lost, or None."""
    check_run(table, size, user, script)
    check_mode(mode)
    tables = tables_along(table, user, script)
    for flushes in parts_in_order(list(range(len(script)))):
        if are_safe(tables, size, flushes, mode):
            return flushes
    return None
