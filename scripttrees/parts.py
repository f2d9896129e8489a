"""Leaving items out."""


def all_parts(row):
    """Return the list of all tuples that result from leaving out items of a row, none or some or all."""
    parts = [()]
    for item in row:
        parts = parts + [part + (item,) for part in parts]
    return parts


def parts_in_order(row):
    """Return the list of what all_parts returns, the shortest ones first, and equally long ones in Python's order."""
    return sorted(sorted(all_parts(row)), key=len)
