"""Sequences in the order in which Python sorts."""


def is_sorted(things):
    return all([things[k - 1] <= things[k] for k in range(1, len(things))])


def is_ascending(things):
    return all([things[k - 1] < things[k] for k in range(1, len(things))])


def ascending(things):
    """The list of the things, sorted, equal ones once."""
    found = []
    for thing in sorted(things):
        if not found or found[-1] != thing:
            found.append(thing)
    return found
