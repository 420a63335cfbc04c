"""[20] and [21], with [3], [4], [12] to [15] and [17] to [19]; the last sentence ahead of "Stage 5"."""

import random
import types

from tests.support import (
    ALONE, BIG, FINE, KINDS, RULES, WRONG, Case, names_in, nested, random_kinds, random_rule, random_rules, random_tree, same, setups,
    strange_values)
from tests.test_thintexts import chain
from thinspans.errors import InvalidPaper, InvalidText, NotUsable, ThinError
from thinspans.kindchecker import lets_kinds, lets_rules
from thinspans.kinds import is_name, is_rule, is_tree
from thinspans.setups import Only, Renamed, Setup
from thinspans.thinreadings import setup_read
from thinspans.thintexts import setup_text
from thinspans.trees import services_of, spans_of

TREE, KIND, SERVICE, RULE, MANY = [NotUsable(word, -1) for word in ('tree', 'kind', 'service', 'rule', 'many')]
SETUP = Setup(KINDS, RULES)
NO_KINDS = [0, (), KINDS[::-1], KINDS + KINDS, list(KINDS), KINDS[0], (ALONE, ALONE), (ALONE, ('front', True, ())), (ALONE, ('front', 2, ())), (('Front', 0, ()),), (('front', 0, []),),
            (('front', 0, (('pay', 1, ()), ('pay', 0, ()))),), (ALONE, None)]
NO_RULES = [0, (), RULES[:1], RULES[::-1], RULES + RULES[:1], list(RULES), (RULES[0], ('pay', ('own', 2, 1))), (RULES[0], ('pay', ('own', True, 1))), (RULES[0], ('paid', ('bad',))),
            (RULES[0], None), (RULES[0], ('pay', ['bad'])), (('front', ('none',)), RULES[1]), (RULES[0], RULES[0])]
NO_TREES = ['front', ('front', 0), ('front', 0, (), ()), ('front', True, ()), ('front', 2, ()), ['front', 0, ()], ('front', 0, (WRONG, FINE)), ('front', 0, (('pay', False, ()),)), (FINE,),
            (('front', 0, ()),)]


def error_of(function, *args):
    """The error that the call raises, or None."""
    try:
        function(*args)
    except ThinError as error:
        return error
    return None


def sizes(setup):
    return [len(tree[2]) for tree in setup]


class SetupCase(Case):

    def shows(self, setup, kinds, rules, of=Setup):
        """That it is a setup of this class, with all that follows of its form."""
        self.assertIs(of, type(setup))
        self.assertTrue(same((kinds, rules), setup.form), setup.form)
        self.assertTrue(same(services_of(kinds), setup.services))
        self.assertTrue(same(list(kinds), list(setup)))
        self.assertTrue(same(list(kinds), [kind for kind in setup]))
        self.assertEqual((len(kinds), True), (len(setup), bool(setup)))
        self.assertTrue(same([rule for _, rule in rules], [setup[service] for service in setup.services]))
        self.assertTrue(all((kind in setup) is True for kind in kinds))
        self.gives(setup_text(kinds, rules), str, setup)
        self.assertIs(True, setup == Setup(kinds, rules))
        self.assertIs(True, Setup(kinds, rules) == setup)
        spans = [(k, *span) for k, kind in enumerate(kinds) for span in spans_of(kind)]
        self.assertTrue(same(spans, list(setup.walk())))


class NewSetup(SetupCase):

    def test_example(self):
        setup = Setup(KINDS, RULES)
        self.assertTrue(same([('bad',), True, True, 9, ('front', ('never',))],
                             [setup['pay'], FINE in setup, (setup - 2).form == (KINDS[:2], RULES), setup((1, 1, 0), (4, 5, 6)), Only(setup, 'pay').form[1][0]]))
        self.gives('kind shop\nrules shop=own:1/2', str, Renamed(setup - 2 - 1, front='shop'))

    def test_forms(self):
        self.shows(SETUP, KINDS, RULES)
        self.shows(Setup(kinds=KINDS, rules=RULES), KINDS, RULES)
        self.shows(Setup((ALONE,), RULES[:1]), (ALONE,), RULES[:1])
        for _, kinds, rules in setups(20, 40):
            self.shows(Setup(kinds, rules), kinds, rules)

    def test_errors_of_both_in_their_order(self):
        for kinds in strange_values() + NO_KINDS:
            wanted = error_of(lets_kinds, kinds)
            self.assertIsNotNone(wanted)
            for rules in [RULES, (), None, kinds]:
                self.fails(wanted, Setup, kinds, rules)
        for rules in strange_values() + NO_RULES:
            wanted = error_of(lets_rules, KINDS, rules)
            self.assertIsNotNone(wanted)
            self.fails(wanted, Setup, KINDS, rules)
        self.fails(InvalidPaper('mark', (1, (0,))), Setup, (ALONE, ('front', 0, (('pay', 7, ()),))), RULES)
        self.fails(InvalidPaper('rule', 1), Setup, KINDS, (RULES[0], ('pay', ('own', 2, 1))))

    def test_never_changes(self):
        setup = Setup(KINDS, RULES)
        before = repr(vars(setup))
        for action in [lambda: setup + ('pay', 0, ()), lambda: setup - 0, lambda: setup.ruled('pay', ('late',)), lambda: list(setup.walk()), lambda: setup((1, 2, 3), (4, 5, 6)),
                       lambda: Renamed(setup, pay='a'), lambda: Only(setup, 'pay'), lambda: str(setup), lambda: setup['pay'], lambda: setup + FINE, lambda: setup - 9]:
            error_of(action)
            self.assertEqual(before, repr(vars(setup)))


class Items(SetupCase):

    def test_rule_of_a_service(self):
        self.assertTrue(same([('own', 1, 2), ('bad',)], [SETUP['front'], SETUP['pay']]))
        for thing in strange_values() + [0, 1, -1, 'Front', 'front ', 'fron', 'pa', (), ('pay',), ['pay'], b'pay', SETUP, slice(0, 1)]:
            self.fails_so(SERVICE, lambda: SETUP[thing])
        self.fails_so(SERVICE, lambda: (SETUP - 2 - 1)['pay'])

    def test_in(self):
        for thing in strange_values() + NO_TREES + [0, KINDS, SETUP, ('front', False, ()), ('front', 0, (('pay', True, ()),)), ('front', 1, ()), list(ALONE), ('pay', 0, ()), 'front', 'pay']:
            self.assertIs(False, thing in SETUP, thing)
        for kind in KINDS:
            self.assertIs(True, kind in SETUP)
        self.assertIs(False, WRONG in SETUP - 2)

    def test_length_and_iteration(self):
        self.assertEqual([3, 2, 1], [len(SETUP), len(SETUP - 0), len(SETUP - 0 - 0)])
        for _ in range(2):
            self.assertEqual(list(KINDS), list(SETUP))
            self.assertEqual(KINDS, tuple(SETUP))
        self.assertEqual([(one, other) for one in KINDS for other in KINDS], [(one, other) for one in SETUP for other in SETUP])
        first, *rest = SETUP
        self.assertEqual((ALONE, [FINE, WRONG]), (first, rest))
        self.assertEqual([0, 1, 1], sizes(SETUP))

    def test_equal(self):
        others = [SETUP - 0, SETUP - 2, SETUP.ruled('pay', ('late',)), SETUP.ruled('front', ('own', 2, 4)), SETUP + ('pay', 0, ()), Renamed(SETUP, pay='paid'), Only(SETUP),
                  Only(SETUP, 'pay'), Setup((ALONE,), RULES[:1])]
        alike = [Setup(KINDS, RULES), Renamed(SETUP), Only(SETUP, 'front', 'pay'), SETUP - 2 + WRONG, SETUP.ruled('pay', ('bad',)), Setup.parsed(str(SETUP)),
                 Renamed(Renamed(SETUP, pay='front', front='pay'), pay='front', front='pay')]
        for other in alike:
            self.assertIs(True, SETUP == other)
            self.assertIs(True, other == SETUP)
            self.assertIs(False, SETUP != other)
        for other in others:
            self.assertIs(False, SETUP == other)
            self.assertIs(False, other == SETUP)
            self.assertIs(True, SETUP != other)
        # A derived object is equal by its form alone, not by its source.
        self.assertIs(True, Only(Renamed(SETUP, pay='paid')) == Renamed(Only(SETUP), pay='paid'))
        for thing in strange_values() + [0, KINDS, RULES, SETUP.form, list(SETUP.form), str(SETUP), object()]:
            self.assertIs(False, SETUP == thing)
            self.assertIs(False, thing == SETUP)
            self.assertIs(True, SETUP != thing)

    def test_str(self):
        self.gives('kind front\nkind front(pay)\nkind front(pay!)\nrules front=own:1/2;pay=bad', str, SETUP)
        self.gives('kind front\nrules front=never', str, Only(SETUP - 2 - 1))
        self.assertEqual(str(SETUP), f'{SETUP}')


class Plus(SetupCase):

    def test_at_its_place(self):
        chance = random.Random(201)
        for _ in range(60):
            kinds = random_kinds(chance, 5, 4, 'ab')
            rules = random_rules(chance, kinds)
            services = sorted(set().union(*map(names_in, kinds)))
            setup = Setup(kinds, rules)
            tree = random_tree(chance, chance.randint(1, 4), 'abc')
            if tree in kinds or not names_in(tree) <= set(services):
                self.fails_so(TREE, lambda: setup + tree)
            else:
                self.shows(setup + tree, tuple(sorted(kinds + (tree,))), rules)
        self.shows(SETUP - 2 + ('pay', 1, ()), (ALONE, FINE, ('pay', 1, ())), RULES)
        self.shows(SETUP + ('front', 0, (ALONE,)), (ALONE, ('front', 0, (ALONE,)), FINE, WRONG), RULES)
        self.shows(SETUP + ('front', 1, ()), KINDS + (('front', 1, ()),), RULES)

    def test_of_setup_itself(self):
        for setup in (Renamed(SETUP), Only(SETUP, 'pay', 'front')):
            self.shows(setup + ('pay', 1, ()), KINDS + (('pay', 1, ()),), RULES)

    def test_no_trees(self):
        for thing in strange_values() + NO_TREES + [0, KINDS, SETUP, RULES]:
            self.fails_so(TREE, lambda: SETUP + thing)
        # A new service, at the top and below; a kind already.
        for thing in [('back', 0, ()), ('front', 0, (('back', 0, ()),)), ('front', 1, (('pay', 0, (('z', 1, ()),)),)), ALONE, FINE, WRONG]:
            self.fails_so(TREE, lambda: SETUP + thing)
        self.fails_so(TREE, lambda: SETUP - 2 - 1 + FINE)


class Minus(SetupCase):

    def test_each_kind(self):
        for k in range(3):
            self.shows(SETUP - k, KINDS[:k] + KINDS[k + 1:], RULES)
        # The rule of pay goes with its last kind.
        self.shows(SETUP - 2 - 1, (ALONE,), RULES[:1])
        kinds = (('a', 0, (('b', 0, ()),)), ('c', 1, ()))
        rules = (('a', ('bad',)), ('b', ('late',)), ('c', ('caller',)))
        self.shows(Setup(kinds, rules) - 0, kinds[1:], rules[2:])
        self.shows(Setup(kinds, rules) - 1, kinds[:1], rules[:2])

    def test_as_defined(self):
        for _, kinds, rules in setups(202, 40):
            setup = Setup(kinds, rules)
            for k in range(len(kinds)):
                left = kinds[:k] + kinds[k + 1:]
                if left:
                    self.shows(setup - k, left, tuple(pair for pair in rules if pair[0] in services_of(left)))
                else:
                    self.fails_so(KIND, lambda: setup - k)

    def test_of_setup_itself(self):
        self.shows(Renamed(SETUP) - 2, KINDS[:2], RULES)
        self.shows(Only(SETUP, 'front') - 0 - 0, (WRONG,), (RULES[0], ('pay', ('never',))))

    def test_no_kinds(self):
        for thing in strange_values() + [3, -1, -3, BIG, True, False, None, '0', (0,), [0], ALONE, SETUP, KINDS]:
            self.fails_so(KIND, lambda: SETUP - thing)
        for thing in strange_values() + [0, 1, True, False, -1]:
            # The only one.
            self.fails_so(KIND, lambda: SETUP - 0 - 0 - thing)


class Ruled(SetupCase):

    def test_rules(self):
        self.shows(SETUP.ruled('pay', ('late',)), KINDS, (RULES[0], ('pay', ('late',))))
        self.shows(SETUP.ruled(service='front', rule=('or', ('bad',), ('own', 0, 3))), KINDS, (('front', ('or', ('bad',), ('own', 0, 3))), RULES[1]))
        self.shows(SETUP.ruled('pay', ('bad',)), KINDS, RULES)
        for setup in (Renamed(SETUP), Only(SETUP, 'pay', 'front')):
            self.shows(setup.ruled('pay', ('late',)), KINDS, (RULES[0], ('pay', ('late',))))

    def test_errors(self):
        for thing in strange_values() + [0, 'Pay', 'back', SETUP, ('pay',)]:
            self.fails(SERVICE, SETUP.ruled, thing, ('bad',))
            # Ahead of the rule.
            self.fails(SERVICE, SETUP.ruled, thing, thing)
            self.fails(SERVICE, SETUP.ruled, thing, ('all',))
        for thing in strange_values() + [0, ('all',), ['bad'], ('own', 2, 1), ('own', True, 1), ('or', ('bad',)), ('or', ('or', ('bad',), ('bad',)), ('bad',)), SETUP, 'bad']:
            self.fails(RULE, SETUP.ruled, 'pay', thing)


class Walk(SetupCase):

    def test_generator(self):
        self.assertIsInstance(SETUP.walk(), types.GeneratorType)
        self.assertTrue(same([(0, (), 'front', 0), (1, (), 'front', 0), (1, (0,), 'pay', 0), (2, (), 'front', 0), (2, (0,), 'pay', 1)], list(SETUP.walk())))

    def test_twice_at_once(self):
        one, other = SETUP.walk(), SETUP.walk()
        self.assertEqual((0, (), 'front', 0), next(one))
        self.assertEqual((1, (), 'front', 0), next(one))
        self.assertEqual((0, (), 'front', 0), next(other))
        self.assertEqual([3, 4], [len(list(one)), len(list(other))])
        self.assertEqual([], list(one))

    def test_deep(self):
        setup = Setup.plain((chain(30),), ('bad',))
        self.assertEqual([(0, (0,) * k) for k in range(30)], [part[:2] for part in setup.walk()])
        self.assertEqual(setup, Setup.parsed(str(setup)))


class Called(SetupCase):

    def test_totals(self):
        for question, crowd, total in [((1, 1, 0), (4, 5, 6), 9), ((0, 0, 0), (1, 2, 3), 0), ((-9, 9, 1), (99, 0, 7), -884), ((BIG, 1, 0), (BIG, 0, 0), BIG * BIG), ((1, -1, 1), (-1, -1, 5), 5)]:
            self.assertTrue(same(total, SETUP(question, crowd)))
            self.assertTrue(same(total, SETUP(question=question, crowd=crowd)))
        self.assertEqual(35, (SETUP - 2 - 1)((5,), (7,)))

    def test_many(self):
        good = (1, 2, 3)
        for thing in [(), (1,), (1, 2), (1, 2, 3, 4), (0,) * 9]:
            for one, other in [(thing, good), (good, thing), (thing, thing)]:
                self.fails_so(MANY, lambda: SETUP(one, other))


class Parsed(SetupCase):

    def test_written_ones(self):
        self.shows(Setup.parsed(str(SETUP)), KINDS, RULES)
        self.shows(Setup.parsed(text='kind a\nrules a=bad'), (('a', 0, ()),), (('a', ('bad',)),))
        for _, kinds, rules in setups(203, 40):
            setup = Setup(kinds, rules)
            self.shows(Setup.parsed(str(setup)), kinds, rules)
            self.assertEqual(str(setup), str(Setup.parsed(str(setup))))

    def test_errors(self):
        for text, error in [('', InvalidText(0, 0)), ('kind front', InvalidText(1, 0)), ('kind front\nrules', InvalidText(1, 1)), ('kind front(pay!\nrules front=bad', InvalidText(0, 1)),
                            ('kind front\nrules front=bad\n', InvalidText(2, 0)), ('kind front x\nrules front=bad', InvalidText(0, 2)), ('rules front=bad', InvalidPaper('none', -1)),
                            ('rules -', InvalidPaper('none', -1)), ('kind front\nrules -', InvalidPaper('many', -1)), ('kind front\nkind front\nrules front=bad', InvalidPaper('rise', 1)),
                            ('kind front(pay)\nkind front\nrules front=bad;pay=bad', InvalidPaper('rise', 1)), ('kind front\nrules pay=bad', InvalidPaper('service', 0)),
                            ('kind front(pay)\nrules pay=bad;front=bad', InvalidPaper('service', 0)), ('kind front\nrules front=bad;pay=bad', InvalidPaper('many', -1)),
                            # What cannot be read is ahead of what is none.
                            ('kind front\nkind front\nrules front=bad\nx', InvalidText(3, 0))]:
            self.fails(error, Setup.parsed, text)

    def test_spoiled(self):
        chance = random.Random(204)
        good = 0
        for _ in range(1500):
            text = str(SETUP)
            at = chance.randrange(len(text))
            text = text[:at] + chance.choice(['', text[at] * 2, chance.choice('a!(),;=:/\n ')]) + text[at + 1:]
            wanted = error_of(setup_read, text)
            if wanted is None:
                wanted = error_of(Setup, *setup_read(text))
            if wanted is not None:
                self.fails(wanted, Setup.parsed, text)
            else:
                good += 1
                self.assertEqual(text, str(Setup.parsed(text)))
        self.assertGreater(good, 5)


class Plain(SetupCase):

    def test_one_rule_for_all(self):
        self.shows(Setup.plain(KINDS, ('late',)), KINDS, (('front', ('late',)), ('pay', ('late',))))
        self.shows(Setup.plain(kinds=(ALONE,), rule=('or', ('bad',), ('late',))), (ALONE,), (('front', ('or', ('bad',), ('late',))),))
        for chance, kinds, _ in setups(205, 30):
            rule = random_rule(chance)
            self.shows(Setup.plain(kinds, rule), kinds, tuple((service, rule) for service in services_of(kinds)))
        self.shows(SETUP.plain(KINDS[1:], ('never',)), KINDS[1:], (('front', ('never',)), ('pay', ('never',))))

    def test_errors(self):
        for kinds in strange_values() + NO_KINDS:
            for rule in [('bad',), None, kinds]:
                self.fails(error_of(lets_kinds, kinds), Setup.plain, kinds, rule)
        for rule in strange_values() + [0, ('all',), ['bad'], ('own', 2, 1), ('own', 1, True), ('own', 1, 0), ('or', ('bad',)), RULES, RULES[0]]:
            self.assertFalse(is_rule(rule))
            self.fails(RULE, Setup.plain, KINDS, rule)


def new_tree(tree, names):
    return (names.get(tree[0], tree[0]), tree[1], tuple(sorted(new_tree(call, names) for call in tree[2])))


class Renaming(SetupCase):

    def renames(self, setup, names):
        """That it is the setup with these names, its kinds, trees and rules sorted anew."""
        renamed = Renamed(setup, **names)
        kinds, rules = setup.form
        self.shows(renamed, tuple(sorted(new_tree(kind, names) for kind in kinds)), tuple(sorted((names.get(service, service), rule) for service, rule in rules)), Renamed)
        self.assertIs(setup, renamed.source)
        return renamed

    def test_all_one_and_exchanged(self):
        for names in [{}, {'front': 'shop'}, {'pay': 'a'}, {'front': 'z', 'pay': 'a'}, {'front': 'pay', 'pay': 'front'}, {'front': 'front'}, {'pay': 'pay', 'front': 'abcdefgh'},
                      {'front': 'self', 'pay': 'setup'}]:
            self.renames(SETUP, names)
        self.assertEqual('kind pay\nkind pay(front)\nkind pay(front!)\nrules front=bad;pay=own:1/2', str(Renamed(SETUP, front='pay', pay='front')))
        self.assertEqual(SETUP, Renamed(setup=SETUP, front='front'))

    def test_sorted_anew(self):
        kinds = (('a', 0, (('b', 0, ()), ('c', 0, ()))), ('b', 1, ()))
        rules = (('a', ('bad',)), ('b', ('late',)), ('c', ('own', 1, 3)))
        renamed = self.renames(Setup(kinds, rules), {'b': 'z', 'a': 'q'})
        self.assertEqual(((('q', 0, (('c', 0, ()), ('z', 0, ()))), ('z', 1, ())), (('c', ('own', 1, 3)), ('q', ('bad',)), ('z', ('late',)))), renamed.form)
        self.assertEqual((('a', 1, ()), ('b', 0, (('a', 0, ()), ('c', 0, ())))), Renamed(Setup(kinds, rules), a='b', b='a').form[0])

    def test_random_names(self):
        for chance, kinds, rules in setups(211, 60):
            setup = Setup(kinds, rules)
            for source in (setup, Only(setup, *chance.sample(setup.services, 1)), Renamed(setup, **{setup.services[0]: 'y'})):
                services = source.services
                some = chance.sample(services, chance.randint(0, len(services)))
                news = chance.sample(['a', 'b', 'c', 'd', 'x', 'yz', 'w'], len(some))
                names = dict(zip(some, news))
                after = [names.get(service, service) for service in services]
                if len(set(after)) < len(after):
                    self.fails_so(NotUsable('alike', -1), lambda: Renamed(source, **names))
                else:
                    renamed = self.renames(source, names)
                    # And back.
                    self.assertEqual(source, Renamed(renamed, **{new: old for old, new in names.items()}))

    def test_services(self):
        for names, least in [({'back': 'shop'}, 'back'), ({'z': 'a', 'b': 'c'}, 'b'), ({'front': 'shop', 'z': 'q'}, 'z'), ({'Front': 'a'}, 'Front'), ({'x': 0, 'front': 0}, 'x'),
                             ({'front': 'pay', 'y': 'a'}, 'y'), ({'kinds': 'a', 'rules': 'b'}, 'kinds'), ({'names': 'a'}, 'names'), ({'': 'a'}, ''), ({'a b': 'a'}, 'a b'), ({'z': 'z'}, 'z')]:
            self.fails_so(NotUsable('service', least), lambda: Renamed(SETUP, **names))
        # Of a service that went, too.
        self.fails_so(NotUsable('service', 'pay'), lambda: Renamed(SETUP - 2 - 1, pay='shop'))

    def test_names(self):
        for thing in [value for value in strange_values() if not is_name(value)] + [0, 'Shop', 'shop ', '', 'abcdefghi', ('shop',), ['shop'], SETUP, b'a']:
            self.fails_so(NotUsable('name', 'front'), lambda: Renamed(SETUP, front=thing))
            self.fails_so(NotUsable('name', 'pay'), lambda: Renamed(SETUP, pay=thing, front='shop'))
            self.fails_so(NotUsable('name', 'front'), lambda: Renamed(SETUP, pay=thing, front=thing))
            # Ahead of names that are alike.
            self.fails_so(NotUsable('name', 'pay'), lambda: Renamed(SETUP, pay=thing, front='pay'))

    def test_alike(self):
        for names in [{'front': 'pay'}, {'pay': 'front'}, {'front': 'a', 'pay': 'a'}, {'front': 'front', 'pay': 'front'}]:
            self.fails_so(NotUsable('alike', -1), lambda: Renamed(SETUP, **names))


class OnlySome(SetupCase):

    def test_none_one_and_all(self):
        never = ('never',)
        for services, rules, others in [((), (('front', never), ('pay', never)), ('front', 'pay')), (('pay',), (('front', never), RULES[1]), ('front',)),
                                        (('front',), (RULES[0], ('pay', never)), ('pay',)), (('front', 'pay'), RULES, ()), (('pay', 'front'), RULES, ()),
                                        (('pay', 'pay'), (('front', never), RULES[1]), ('front',)), (('pay', 'front', 'pay', 'pay'), RULES, ())]:
            only = Only(SETUP, *services)
            self.shows(only, KINDS, rules, Only)
            self.gives(others, only.others)
            self.assertIs(SETUP, only.source)
        self.shows(Only(setup=SETUP), KINDS, (('front', never), ('pay', never)), Only)

    def test_random_ones(self):
        for chance, kinds, rules in setups(212, 40):
            setup = Renamed(Setup(kinds, rules))
            some = [chance.choice(setup.services) for _ in range(chance.randint(0, 4))]
            only = Only(setup, *some)
            self.shows(only, kinds, tuple((service, rule if service in some else ('never',)) for service, rule in rules), Only)
            self.gives(tuple(sorted(set(setup.services) - set(some))), only.others)
            self.assertIs(setup, only.source)
            # Of what is left of it, the same stay.
            self.shows(Only(only, *some), *only.form, Only)
            self.gives(only.others(), Only(only, *some).others)

    def test_no_services(self):
        for thing in strange_values() + [0, 'Front', 'back', '', (), ('pay',), SETUP, ALONE]:
            self.fails_so(NotUsable('service', 0), lambda: Only(SETUP, thing))
            self.fails_so(NotUsable('service', 1), lambda: Only(SETUP, 'pay', thing))
            self.fails_so(NotUsable('service', 1), lambda: Only(SETUP, 'pay', thing, thing, 'front'))
            self.fails_so(NotUsable('service', 3), lambda: Only(SETUP, 'pay', 'pay', 'front', thing))
        self.fails_so(NotUsable('service', 0), lambda: Only(SETUP - 2 - 1, 'pay'))


class Derived(SetupCase):

    def test_of_derived_ones(self):
        one = Renamed(SETUP, pay='bank')
        two = Only(one, 'bank')
        three = Renamed(two, bank='pay', front='shop')
        self.assertTrue(issubclass(Renamed, Setup) and issubclass(Only, Setup))
        self.assertEqual([SETUP, one, two], [one.source, two.source, three.source])
        self.assertEqual('kind shop\nkind shop(pay)\nkind shop(pay!)\nrules pay=bad;shop=never', str(three))
        self.assertIs(Setup, type(three - 0))
        self.assertIs(Setup, type(two + ('bank', 0, ())))
        self.assertIs(Setup, type(two.ruled('bank', ('late',))))
        self.assertEqual(('front',), two.others())

    def test_they_are_setups(self):
        for setup in (Renamed(SETUP, pay='bank', front='a'), Only(SETUP, 'front')):
            first = setup.services[0]
            self.fails_so(SERVICE, lambda: setup['x'])
            self.fails_so(TREE, lambda: setup + setup.form[0][0])
            self.fails_so(KIND, lambda: setup - 3)
            self.fails_so(RULE, lambda: setup.ruled(first, 0))
            self.fails_so(MANY, lambda: setup((1,), (1,)))
            self.assertEqual(6, setup((1, 1, 1), (1, 2, 3)))
            self.assertTrue(all(is_tree(kind) for kind in setup))


class Deep(SetupCase):

    def test_forty_deep(self):
        # As deep as a value may be: forty tuples and more within one another.
        tree = ('a', 0, ())
        for _ in range(38):
            tree = ('b', 0, (tree,))
        setup = Setup((tree,), (('a', ('bad',)), ('b', ('late',))))
        self.assertEqual(39, len(list(setup.walk())))
        self.assertEqual(new_tree(tree, {'a': 'z', 'b': 'y'}), Renamed(setup, a='z', b='y').form[0][0])
        self.fails_so(TREE, lambda: setup + nested(40, 'a'))
        self.fails_so(SERVICE, lambda: setup[nested(40, 'a')])
