"""Readers of span trees, rules, sights and setups."""

from thinspans.errors import InvalidText
from thinspans.words import rules_in, sight_in, tree_in


def tree_read(text, *, line=0, field=0):
    words = text.split(" ")
    return only_one(words, tree_in(words[0]), line, field)


def rules_read(text, *, line=0, field=0):
    words = text.split(" ")
    return only_one(words, rules_in(words[0]), line, field)


def sight_read(text, *, line=0, field=0):
    words = text.split(" ")
    return only_one(words, sight_in(words[0]), line, field)


def only_one(words, found, line, field):
    """What was found in the first word, None if it cannot stand; it has to be the only word."""
    if found is None:
        raise InvalidText(line, field)
    if len(words) > 1:
        raise InvalidText(line, field + 1)
    return found


def setup_read(text):
    """The pair of the span trees and the rules that the text writes."""
    lines = text.split("\n")
    kinds = []
    for n, text_of_line in enumerate(lines):
        # A missing word is read as an empty one, which cannot stand at the same place.
        word, _, rest = text_of_line.partition(" ")
        if word == "kind":
            kinds.append(tree_read(rest, line=n, field=1))
        elif word == "rules":
            rules = rules_read(rest, line=n, field=1)
            if n + 1 < len(lines):
                raise InvalidText(n + 1, 0)
            return tuple(kinds), rules
        else:
            raise InvalidText(n, 0)
    raise InvalidText(len(lines), 0)
