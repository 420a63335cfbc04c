"""[17], with [4]: the rule of a service, and rules with another one."""

from tests.support import RULES, Case, strange_values
from thinspans.errors import NotUsable
from thinspans.rules import rule_of, with_rule

SERVICE, RULE = NotUsable('service', -1), NotUsable('rule', -1)
MANY = (('a', ('never',)), ('b', ('or', ('own', 1, 2), ('shared', 2, 4))), ('never', ('late',)), ('z', ('caller',)))
GOOD = [('never',), ('own', 2, 4), ('shared', 0, 1), ('or', ('bad',), ('late',)), ('or', ('own', 1, 2), ('own', 1, 3))]
NO_RULES = [('own', 2, 1), ('own', 0, 0), ('own', True, 1), ['never'], ('or', ('or', ('bad',), ('bad',)), ('bad',)), 'never']


class Rules(Case):

    def test_rule_of(self):
        for rules in (RULES, MANY):
            for service, rule in rules:
                self.gives(rule, rule_of, rules, service)

    def test_with_rule(self):
        self.gives((('front', ('own', 1, 2)), ('pay', ('late',))), with_rule, RULES, 'pay', ('late',))
        for place, (service, _) in enumerate(MANY):
            for rule in GOOD:
                self.gives(MANY[:place] + ((service, rule),) + MANY[place + 1:], with_rule, MANY, service, rule)

    def test_the_same_rule(self):
        for service, rule in MANY:
            self.gives(MANY, with_rule, MANY, service, rule)

    def test_no_service(self):
        for thing in strange_values() + ['c', 'fron', 'frontt', ('front',), ['pay']]:
            self.fails(SERVICE, rule_of, RULES, thing)
            self.fails(SERVICE, with_rule, RULES, thing, ('never',))
            # The service comes ahead of the rule.
            self.fails(SERVICE, with_rule, RULES, thing, thing)

    def test_no_rule(self):
        for thing in strange_values() + NO_RULES:
            self.fails(RULE, with_rule, RULES, 'pay', thing)
            self.fails(RULE, with_rule, MANY, 'a', thing)
