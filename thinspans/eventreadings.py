"""Readers of events and of logs."""

from thinspans.errors import InvalidText
from thinspans.words import count_in, number_in, question_in, rules_in, sight_in, tree_in

# What stands behind the first word of a line.
FORMS = {
    "seen": ("count", "sight"),
    "mend": ("count", "sight", "sight"),
    "rules": ("rules",),
    "ask": ("question",),
    "drop": ("number",),
    "book": ("count", "count"),
    "kind": ("tree",),
}
EVENTS = ("seen", "mend", "rules", "ask", "drop")


def read_event(text):
    """The event that the text writes."""
    return event_in_line(text, 0)


def event_in_line(text, line):
    word, values = line_read(text, line, EVENTS)
    # How many traces: in a line it stands ahead of the sights, in an event behind them.
    return (word, *values[1:], values[0])


def line_read(text, line, heads):
    """The pair of the first word, one of heads, and the list of what the others write."""
    words = text.split(" ")
    head = words[0]
    if head not in heads:
        raise InvalidText(line, 0)
    forms = FORMS[head]
    values = []
    for k, form in enumerate(forms):
        value = value_in(form, words[k + 1]) if k + 1 < len(words) else None
        if value is None:
            raise InvalidText(line, k + 1)
        values.append(value)
    if len(words) > len(forms) + 1:
        raise InvalidText(line, len(forms) + 1)
    return head, values


def value_in(form, word):
    """What the word writes, None if it cannot stand."""
    if form == "count":
        return count_in(word)
    if form == "number":
        return number_in(word)
    if form == "sight":
        return sight_in(word)
    if form == "rules":
        return rules_in(word)
    if form == "question":
        return question_in(word)
    return tree_in(word)


def read_log(lines):
    """The log that the list of lines writes."""
    many_kinds, many_questions = lines_read(lines, 0, 1, "book")[0]
    kinds = lines_read(lines, 1, many_kinds, "kind")
    rules = lines_read(lines, many_kinds + 1, 1, "rules")
    questions = lines_read(lines, many_kinds + 2, many_questions, "ask")
    begin = many_kinds + many_questions + 2
    events = [event_in_line(text, begin + k) for k, text in enumerate(lines[begin:])]
    start = ("book", only_values(kinds), rules[0][0], only_values(questions))
    return (start, *events)


def lines_read(lines, begin, many, head):
    """The lists of what so many lines with this first word write, from line begin on."""
    found = [line_read(text, begin + k, (head,))[1] for k, text in enumerate(lines[begin:begin + many])]
    if len(found) < many:
        raise InvalidText(len(lines), 0)
    return found


def only_values(found):
    return tuple([values[0] for values in found])
