"""What can be found on a disk behind a crash."""

from scripttrees.blocks import check_disk, freed
from scripttrees.errors import InvalidDealings, InvalidMode, TooMany
from scripttrees.images import image_of
from scripttrees.looker import check_sound, faults_of
from scripttrees.parts import all_parts
from scripttrees.placing import table_on, with_table
from scripttrees.tables import is_table
from scripttrees.writing import changes, written

FLUSH = "flush"
MODES = ("all", "ordered", "names")
MOST_DEALINGS = 12
# How many writes of contents there may be between two flushes.
MOST_CONTENTS = 6


def are_dealings(candidate):
    """Return whether candidate is dealings."""
    if not isinstance(candidate, list) or len(candidate) > MOST_DEALINGS:
        return False
    return all([item == FLUSH or is_table(item) for item in candidate])


def check_mode(mode):
    """Raise InvalidMode if mode is not a mode."""
    if mode not in MODES:
        raise InvalidMode("this is not a mode")


def stretches(disk, dealings):
    """Return the list of the stretches between flushes, each with the disk at its beginning and its steps.

    The steps of a stretch are the writes for each of its tables in turn, as writes_for returns them.
    """
    found = []
    start = disk
    steps = []
    for item in dealings:
        if item == FLUSH:
            found.append((start, steps))
            disk = freed(disk)
            start = disk
            steps = []
        else:
            after = with_table(disk, item)
            steps.append(changes(disk, after, item))
            disk = after
    found.append((start, steps))
    return found


def all_contents(steps):
    """Return the list of all writes of contents of some steps."""
    return [write for contents, _ in steps for write in contents]


def all_names(steps):
    """Return the list of all writes of names of some steps."""
    return [write for _, names in steps for write in names]


def sure_contents(steps, many, mode):
    """Return the list of the writes of contents that are on the disk where the names of so many first steps are."""
    if mode == "names":
        return []
    return all_contents(steps[:many])


def loose_contents(steps, many, mode):
    """Return the list of the writes of contents of which each may be on the disk or not."""
    if mode == "all":
        return []
    if mode == "names":
        return all_contents(steps)
    return all_contents(steps[many:])


def disks_in(stretch, mode):
    """Return the list of the disks that can be found behind a crash in a stretch, or at its end."""
    start, steps = stretch
    found = []
    for many in range(len(steps) + 1):
        # No block has a write of contents and one of names in the same stretch, as held blocks are not chosen.
        base = written(written(start, all_names(steps[:many])), sure_contents(steps, many, mode))
        # A crash before the last step leaves nothing that it could not leave behind that step.
        for part in all_parts(loose_contents(steps, many, mode)):
            found.append(freed(written(base, part)))
    return found


def all_found_disks(disk, dealings, mode):
    """Return what found_disks returns, for what is known to be right."""
    rows = stretches(disk, dealings)
    if any([len(all_contents(steps)) > MOST_CONTENTS for _, steps in rows]):
        raise TooMany("there are too many writes of contents between two flushes")
    disks = {}
    for row in rows:
        for found in disks_in(row, mode):
            disks[tuple(image_of(found))] = found
    return [disks[lines] for lines in sorted(disks)]


def found_disks(disk, dealings, mode):
    """Return the list of all disks that can be found behind a crash, none twice, in the order of their images."""
    check_disk(disk)
    check_sound(disk)
    if not are_dealings(dealings):
        raise InvalidDealings("these are not dealings")
    check_mode(mode)
    return all_found_disks(disk, dealings, mode)


def sound_tables(disks):
    """Return the ascending list of the tables of those of some disks that are sound."""
    return sorted({table_on(disk) for disk in disks if not faults_of(disk)})


def found_tables(disk, dealings, mode):
    """Return the ascending list of the tables of the sound disks that can be found behind a crash, none twice."""
    return sound_tables(found_disks(disk, dealings, mode))


def can_break(disk, dealings, mode):
    """Return whether a disk that is not sound can be found behind a crash."""
    return any([len(faults_of(found)) > 0 for found in found_disks(disk, dealings, mode)])
