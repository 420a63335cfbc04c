"""Events and logs as lines."""

from thinspans.thintexts import kind_line, question_text, rules_line, sight_text


def event_line(event):
    """The line of an event by kind."""
    word = event[0]
    if word == "seen":
        return f"seen {event[2]} {sight_text(event[1])}"
    if word == "mend":
        return f"mend {event[3]} {sight_text(event[1])} {sight_text(event[2])}"
    if word == "rules":
        return rules_line(event[1])
    if word == "ask":
        return ask_line(event[1])
    return f"drop {event[1]}"


def ask_line(question):
    return f"ask {question_text(question)}"


def log_lines(log):
    """The list of the lines of a log: those of its first element, then one for each event."""
    _, kinds, rules, questions = log[0]
    first = [f"book {len(kinds)} {len(questions)}"] + [kind_line(kind) for kind in kinds] + [rules_line(rules)]
    return first + [ask_line(question) for question in questions] + [event_line(event) for event in log[1:]]
