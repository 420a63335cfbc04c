"""Rules of kinds: the rule of each service."""

from thinspans.errors import NotUsable
from thinspans.kinds import is_rule


def rule_of(rules, service):
    """The rule of this service."""
    for name, rule in rules:
        if name == service:
            return rule
    raise NotUsable("service", -1)


def with_rule(rules, service, rule):
    """The rules with another one for this service."""
    if service not in [name for name, _ in rules]:
        raise NotUsable("service", -1)
    if not is_rule(rule):
        raise NotUsable("rule", -1)
    return tuple([(name, rule if name == service else present) for name, present in rules])
