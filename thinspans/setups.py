"""Setups: kinds and rules as one object, and setups that are derived from others."""

from thinspans.errors import NotUsable
from thinspans.fractions import total_of
from thinspans.kindchecker import lets_kinds, lets_rules
from thinspans.kinds import is_name, is_number, is_rule, is_tree
from thinspans.ordering import ascending
from thinspans.rules import rule_of, with_rule
from thinspans.shapes import subtrees_of
from thinspans.thinreadings import setup_read
from thinspans.thintexts import setup_text
from thinspans.trees import services_of, spans_of


class Setup:
    """Kinds and rules of them. It never changes."""

    def __init__(self, kinds, rules):
        lets_kinds(kinds)
        lets_rules(kinds, rules)
        self._kinds = kinds
        self._rules = rules
        self.services = services_of(kinds)
        self.form = (kinds, rules)

    @classmethod
    def parsed(cls, text):
        """The setup that the text writes."""
        kinds, rules = setup_read(text)
        return cls(kinds, rules)

    @staticmethod
    def plain(kinds, rule):
        """The setup in which all services have this rule."""
        lets_kinds(kinds)
        if not is_rule(rule):
            raise NotUsable("rule", -1)
        return Setup(kinds, tuple([(service, rule) for service in services_of(kinds)]))

    def __getitem__(self, at):
        return rule_of(self._rules, at)

    def __contains__(self, x):
        return is_tree(x) and x in self._kinds

    def __len__(self):
        return len(self._kinds)

    def __iter__(self):
        return iter(self._kinds)

    def __eq__(self, other):
        return isinstance(other, Setup) and self.form == other.form

    def __str__(self):
        return str(setup_text(self._kinds, self._rules))

    def __add__(self, other):
        """The setup with one kind more."""
        if not is_tree(other) or other in self._kinds or not has_only(other, self.services):
            raise NotUsable("tree", -1)
        return Setup(tuple(sorted([*self._kinds, other])), self._rules)

    def __sub__(self, other):
        """The setup without kind k, and without the rules that no kind needs then."""
        if not is_number(other) or other >= len(self._kinds) or len(self._kinds) == 1:
            raise NotUsable("kind", -1)
        kinds = tuple([kind for k, kind in enumerate(self._kinds) if k != other])
        services = services_of(kinds)
        return Setup(kinds, tuple([pair for pair in self._rules if pair[0] in services]))

    def ruled(self, service, rule):
        """The setup with another rule for this service."""
        return Setup(self._kinds, with_rule(self._rules, service, rule))

    def walk(self):
        """Yields (k, path, service, mark) for all spans of all kinds."""
        for k, kind in enumerate(self._kinds):
            for path, service, mark in spans_of(kind):
                yield (k, path, service, mark)

    def __call__(self, question, crowd):
        """The total of the question in the crowd."""
        if len(question) != len(self._kinds):
            raise NotUsable("many", -1)
        # A crowd that is not as long as the question is refused there.
        return total_of(question, crowd)


class Renamed(Setup):
    """A setup in which some services have new names."""

    def __init__(self, setup, **names):
        check_names(setup.services, names)
        kinds, rules = setup.form
        new_rules = [(names.get(service, service), rule) for service, rule in rules]
        super().__init__(tuple(sorted([renamed_tree(kind, names) for kind in kinds])), tuple(sorted(new_rules)))
        self.source = setup


class Only(Setup):
    """A setup in which all services but some are never kept."""

    def __init__(self, setup, *services):
        for k, service in enumerate(services):
            if service not in setup.services:
                raise NotUsable("service", k)
        kinds, rules = setup.form
        super().__init__(kinds, tuple([(name, rule if name in services else ("never",)) for name, rule in rules]))
        self.source = setup
        self._others = tuple([name for name in self.services if name not in services])

    def others(self):
        """The set of the other services."""
        return self._others


def has_only(tree, services):
    return all([here[0] in services for here in subtrees_of(tree)])


def check_names(services, names):
    """Raises the error of new names that cannot be given to some of the services."""
    for name in sorted(names):
        if name not in services:
            raise NotUsable("service", name)
    for name in sorted(names):
        if not is_name(names[name]):
            raise NotUsable("name", name)
    if len(ascending([names.get(service, service) for service in services])) < len(services):
        raise NotUsable("alike", -1)


def renamed_tree(tree, names):
    """The tree with the new names of its services, the trees of each span sorted again."""
    done = []
    for service, mark, calls in subtrees_of(tree)[::-1]:
        # The calls of this span are the last ones that are done.
        parts = [done.pop() for _ in calls]
        done.append((names.get(service, service), mark, tuple(sorted(parts))))
    return done[0]
