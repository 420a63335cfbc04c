"""Events of a book by kind: what a value must be, whatever book there is."""

from thinspans.kinds import is_integer, is_name, is_number, is_rule, is_sight


def is_event(thing):
    """Whether any value is an event by kind, possible or not."""
    if not isinstance(thing, tuple) or not thing:
        return False
    word = thing[0]
    if word == "seen":
        return len(thing) == 3 and is_sight(thing[1]) and is_count(thing[2])
    if word == "mend":
        return len(thing) == 4 and is_sight(thing[1]) and is_sight(thing[2]) and is_count(thing[3])
    if len(thing) != 2:
        return False
    if word == "rules":
        return is_named_rules(thing[1])
    if word == "ask":
        return is_asking(thing[1])
    return word == "drop" and is_number(thing[1])


def is_count(thing):
    return is_number(thing) and thing >= 1


def is_named_rules(thing):
    """Whether it is a tuple of pairs (name, rule), of whatever services."""
    return isinstance(thing, tuple) and all([is_named_rule(pair) for pair in thing])


def is_named_rule(thing):
    return isinstance(thing, tuple) and len(thing) == 2 and is_name(thing[0]) and is_rule(thing[1])


def is_asking(thing):
    """Whether it is a nonempty tuple of integers, of whatever kinds."""
    return isinstance(thing, tuple) and thing != () and all([is_integer(part) for part in thing])
