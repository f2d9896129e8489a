"""Which scripts can be judged, alone and together."""

from scripttrees.errors import InvalidScript
from scripttrees.names import have_few_places
from scripttrees.scripts import all_paths_of, is_script

MOST_JUDGED_CALLS = 4
MOST_COMPARED_CALLS = 3


def can_be_judged(scripts):
    """Return whether what are known to be scripts can be judged together."""
    if any([len(script) > MOST_JUDGED_CALLS for script in scripts]):
        return False
    return have_few_places([path for script in scripts for path in all_paths_of(script)])


def check_judged(script):
    """Raise InvalidScript if script is not a script that can be judged."""
    if not is_script(script) or not can_be_judged([script]):
        raise InvalidScript("this is not a script that can be judged")


def check_compared(scripts, most):
    """Raise InvalidScript if some of the scripts are none, have more than most calls, or cannot be judged together."""
    if not all([is_script(script) and len(script) <= most for script in scripts]):
        raise InvalidScript("this is not a script that is short enough")
    if not can_be_judged(scripts):
        raise InvalidScript("these scripts cannot be judged together")
