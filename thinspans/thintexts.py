"""Span trees, rules, sights, setups, questions and fractions as texts."""

from thinspans.keeping import plains_of


def tree_text(tree):
    words = []
    # Without recursion, since trees that the package returned may be of any depth.
    waiting = [tree]
    while waiting:
        here = waiting.pop()
        if isinstance(here, str):
            words.append(here)
        else:
            service, mark, calls = here
            words.append(service)
            if mark == 1:
                words.append("!")
            waiting.extend(signed_calls(calls)[::-1])
    return "".join(words)


def signed_calls(calls):
    """The list of the calls, not yet written, and of the signs around and between them."""
    parts = []
    for call in calls:
        parts.append("," if parts else "(")
        parts.append(call)
    if parts:
        parts.append(")")
    return parts


def trees_text(trees):
    return ",".join([tree_text(tree) for tree in trees])


def plain_text(plain):
    if plain[0] in ("own", "shared"):
        return f"{plain[0]}:{plain[1]}/{plain[2]}"
    return plain[0]


def rule_text(rule):
    return "+".join([plain_text(plain) for plain in plains_of(rule)])


def rules_text(rules):
    if not rules:
        return "-"
    return ";".join([f"{service}={rule_text(rule)}" for service, rule in rules])


def piece_text(piece):
    word, held = piece
    if word == "top":
        return f"^{tree_text(held)}"
    return f"?{trees_text(held)}"


def sight_text(sight):
    if not sight:
        return "-"
    return "|".join([piece_text(piece) for piece in sight])


def kind_line(kind):
    return f"kind {tree_text(kind)}"


def rules_line(rules):
    return f"rules {rules_text(rules)}"


def setup_text(kinds, rules):
    lines = [kind_line(kind) for kind in kinds]
    return "\n".join([*lines, rules_line(rules)])


def question_text(question):
    return ",".join([str(integer) for integer in question])


def fraction_text(fraction):
    p, q = fraction
    return str(p) if q == 1 else f"{p}/{q}"
