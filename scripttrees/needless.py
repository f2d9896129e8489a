"""Calls that a script can do without."""

from scripttrees.alike import parting_of
from scripttrees.errors import InvalidNumber
from scripttrees.judged import MOST_COMPARED_CALLS, check_compared
from scripttrees.parts import parts_in_order


def needless_calls(script):
    """Return the ascending list of the numbers of the calls without which, each alone, a script has the same effect."""
    check_compared([script], MOST_COMPARED_CALLS)
    return [at for at in range(len(script)) if parting_of(script, script[:at] + script[at + 1:]) is None]


def shortest_part(script):
    """Return the shortest script with the same effect that results from leaving out calls."""
    check_compared([script], MOST_COMPARED_CALLS)
    for part in parts_in_order(script):
        if parting_of(script, part) is None:
            return part
    return script


def can_swap(script, number):
    """Return whether a script has the same effect if the call with a number and the next one change places."""
    check_compared([script], MOST_COMPARED_CALLS)
    if not isinstance(number, int) or isinstance(number, bool) or not 0 <= number < len(script) - 1:
        raise InvalidNumber("there is no call with this number, or no next one")
    pair = (script[number + 1], script[number])
    return parting_of(script, script[:number] + pair + script[number + 2:]) is None
