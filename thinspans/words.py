"""Single words of texts: what they write, None if they cannot stand."""

from thinspans.kinds import is_plain, is_sight
from thinspans.ordering import is_sorted
from thinspans.shapes import is_service_name

MOST_IN_A_ROW = 30
MOST_DIGITS = 60


def number_in(word):
    if not 1 <= len(word) <= MOST_DIGITS or not all([letter in "0123456789" for letter in word]):
        return None
    if word[0] == "0" and word != "0":
        return None
    return int(word)


def count_in(word):
    """The number from 1 on."""
    number = number_in(word)
    return None if number == 0 else number


def integer_in(word):
    if not word.startswith("-"):
        return number_in(word)
    number = count_in(word[1:])
    return None if number is None else -number


def question_in(word):
    return all_of([integer_in(part) for part in word.split(",")])


def all_of(parts):
    """The tuple of the parts, None if one of them is None."""
    return None if None in parts else tuple(parts)


def tree_in(word):
    return tree_with_room(word, MOST_IN_A_ROW)


def tree_with_room(text, room):
    """The span tree, with at most so many spans in a row."""
    head, parenthesis, rest = text.partition("(")
    mark = 1 if head.endswith("!") else 0
    service = head[:len(head) - mark]
    if room == 0 or not is_service_name(service):
        return None
    if parenthesis == "":
        return (service, mark, ())
    if not rest.endswith(")"):
        return None
    calls = trees_with_room(rest[:-1], room - 1)
    return None if calls is None else (service, mark, calls)


def trees_with_room(text, room):
    """The sorted tuple of the span trees with commas between."""
    trees = all_of([tree_with_room(part, room) for part in outer_parts(text)])
    return trees if trees is not None and is_sorted(trees) else None


def outer_parts(text):
    """The list of the parts of the text between the commas that stand outside of parentheses."""
    parts = []
    begin = 0
    depth = 0
    for at, letter in enumerate(text):
        if letter == "(":
            depth += 1
        elif letter == ")":
            depth -= 1
        elif letter == "," and depth == 0:
            parts.append(text[begin:at])
            begin = at + 1
    return parts + [text[begin:]]


def plain_in(text):
    word, colon, numbers = text.partition(":")
    if colon == "":
        plain = (word,)
    else:
        p, _, q = numbers.partition("/")
        plain = (word, number_in(p), number_in(q))
    return plain if is_plain(plain) else None


def rule_in(text):
    plains = all_of([plain_in(part) for part in text.split("+")])
    if plains is None or len(plains) > 2:
        return None
    return plains[0] if len(plains) == 1 else ("or", *plains)


def named_rule_in(text):
    service, _, rest = text.partition("=")
    rule = rule_in(rest)
    return (service, rule) if is_service_name(service) and rule is not None else None


def rules_in(word):
    return () if word == "-" else all_of([named_rule_in(part) for part in word.split(";")])


def piece_in(text):
    if text.startswith("^"):
        tree = tree_in(text[1:])
        return None if tree is None else ("top", tree)
    if text.startswith("?"):
        trees = trees_with_room(text[1:], MOST_IN_A_ROW)
        return None if trees is None else ("lost", trees)
    return None


def sight_in(word):
    if word == "-":
        return ()
    pieces = all_of([piece_in(part) for part in word.split("|")])
    return pieces if is_sight(pieces) else None
