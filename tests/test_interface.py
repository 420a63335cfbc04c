"""[10] and the interface: every name in its module, with its parameters; the classes, their methods and properties; the errors."""

import importlib
import inspect
import os
import types
import unittest

from tests.support import KINDS, RULES
from tests.test_books import ASKED
from thinspans import errors
from thinspans.books import Book
from thinspans.desk import Desk
from thinspans.setups import Only, Renamed, Setup
from thinspans.sights import Sight
from thinspans.tellers import Teller

# The parameters as Python writes them.
FUNCTIONS = {
    'kinds': ['is_integer(thing)', 'is_number(thing)', 'is_name(thing)', 'is_fraction(thing)', 'is_tree(thing)', 'is_kinds(thing)', 'is_plain(thing)', 'is_rule(thing)', 'is_sight(thing)'],
    'kindchecker': ['lets_kinds(thing)', 'lets_rules(kinds, thing)'],
    'fractions': ['made(p, q)', 'plus(one, other)', 'minus(one, other)', 'times(one, other)', 'over(one, other)', 'is_less(one, other)', 'total_of(question, crowd)'],
    'trees': ['spans_of(tree)', 'tree_at(tree, path)', 'size_of(tree)', 'services_of(kinds)', 'tree_of(service, mark, *trees)', 'pruned(tree, path)'],
    'rules': ['rule_of(rules, service)', 'with_rule(rules, service, rule)'],
    'thintexts': ['tree_text(tree)', 'rules_text(rules)', 'sight_text(sight)', 'setup_text(kinds, rules)'],
    'thinreadings': ['tree_read(text, *, line=0, field=0)', 'rules_read(text, *, line=0, field=0)', 'sight_read(text, *, line=0, field=0)', 'setup_read(text)'],
    'sighting': ['sight_of(tree, kept)', 'kept_by(tree, rules, draw, pairs)', 'sights_of(tree, rules)', 'chance_of(tree, rules, sight)', 'all_sights(kinds, rules)', 'can_be_whole(tree, rules)',
                 'can_be_unseen(tree, rules)'],
    'leaving': ['left_of(sight, services)', 'thinned(sight, service, p, q)'],
    'averages': ['expected(kinds, rules, crowd)', 'unseen(kinds, rules, crowd)', 'kept_spans(kinds, rules, crowd)', 'look_alikes(kinds, rules)'],
    'drawpapers': ['draws_for(tree, rules, sight)'],
    'drawchecker': ['lets_draws(tree, rules, sight, thing)'],
    'asking': ['is_told(kinds, rules, question)', 'weights_for(kinds, rules, question)', 'tells(kinds, rules, weights)'],
    'blindness': ['is_blind(kinds, rules, difference)', 'are_alike(kinds, rules, crowd, other)', 'how_many_told(kinds, rules)', 'blind_base(kinds, rules)', 'told_with(kinds, rules, question, *others)'],
    'tellpapers': ['tell_paper(kinds, rules, question)'],
    'tellchecker': ['lets_told(kinds, rules, question, thing)'],
    'fairness': ['is_fairly_told(kinds, rules, question)', 'fair_weights_for(kinds, rules, question)'],
    'fairpapers': ['fair_paper(kinds, rules, question)'],
    'fairchecker': ['lets_fair(kinds, rules, question, thing)'],
    'spreading': ['spread(kinds, rules, weights, crowd)', 'least_weights(kinds, rules, question, crowd)'],
    'spreadchecker': ['lets_spread(kinds, rules, question, crowd, thing)'],
    'collecting': ['part_sights(kinds, rules, collectors)', 'is_told_apart(kinds, rules, collectors, question)', 'part_weights(kinds, rules, collectors, question)'],
    'partpapers': ['parting_paper(kinds, rules, collectors, question)'],
    'partchecker': ['lets_parting(kinds, rules, collectors, question, thing)'],
    'choosing': ['cost_of(kinds, rules, crowd)', 'chosen_rules(kinds, options, choice)', 'cheapest(kinds, options, crowd, questions)'],
    'choicepapers': ['choice_paper(kinds, options, crowd, questions)'],
    'choicechecker': ['lets_choice(kinds, options, crowd, questions, thing)'],
    'losing': ['lost_by(kinds, rules, other, questions)', 'lost_apart(kinds, rules, collectors, questions)'],
    'replaying': ['is_log(thing)', 'replayed(log)'],
    'eventtexts': ['event_line(event)', 'log_lines(log)'],
    'eventreadings': ['read_event(text)', 'read_log(lines)'],
}
METHODS = {
    Setup: ['__init__(self, kinds, rules)', 'ruled(self, service, rule)', 'walk(self)', '__call__(self, question, crowd)', '__getitem__', '__contains__', '__len__', '__iter__', '__eq__', '__str__',
            '__add__', '__sub__'],
    Renamed: ['__init__(self, setup, **names)'],
    Only: ['__init__(self, setup, *services)', 'others(self)'],
    Sight: ['__init__(self, pieces)', 'left(self, services)', 'could_be(self, tree)', '__len__', '__iter__', '__contains__', '__eq__'],
    Teller: ['__init__(self, kinds, rules)', 'learn(self, question)', 'forget(self)', 'rank(self)', 'copy(self)', '__len__', '__getitem__', '__iter__', '__contains__', '__eq__'],
    Book: ['__init__(self, kinds, rules, questions)', 'seen(self, sight, n)', 'mend(self, sight, other, n)', 'set_rules(self, rules)', 'ask(self, question)', 'drop(self, k)', 'go(self, event)',
           '__call__(self, event)', '__getitem__', '__contains__', '__len__', '__eq__', 'tried(self, *events)', 'undo(self)', 'do_all(self, *events, keep=False)', 'tally(self)', 'table(self)',
           'barred(self, event)', 'weights_of(self, k)', 'total_now(self, question)', 'lost_under(self, rules)', 'log(self)', '__str__'],
    Desk: ['__init__(self)', 'say(self, row)', 'tally(self)'],
}
MODULES = {Setup: 'setups', Renamed: 'setups', Only: 'setups', Sight: 'sights', Teller: 'tellers', Book: 'books', Desk: 'desk'}
ERRORS = {'InvalidPaper': ('PaperError', '(word, at)'), 'NotUsable': ('TraceError', '(word, at)'), 'NotTold': ('TraceError', '(question)'), 'InvalidEvent': ('BookError', '(event, reason)'),
          'NothingToUndo': ('BookError', '(steps)'), 'InvalidText': ('TextError', '(line, field)'), 'InvalidRow': ('TextError', '(row)')}


class Interface(unittest.TestCase):

    def test_functions(self):
        for name, rows in FUNCTIONS.items():
            module = importlib.import_module('thinspans.' + name)
            for row in rows:
                function = getattr(module, row.split('(')[0])
                self.assertIs(types.FunctionType, type(function), row)
                self.assertEqual(row, function.__name__ + str(inspect.signature(function)))
                self.assertEqual(module.__name__, function.__module__)

    def test_classes(self):
        for kind, rows in METHODS.items():
            self.assertEqual('thinspans.' + MODULES[kind], kind.__module__)
            for row in rows:
                # In the class itself, not in a base class.
                method = vars(kind)[row.split('(')[0]]
                self.assertIs(types.FunctionType, type(method), row)
                if '(' in row:
                    self.assertEqual(row, method.__name__ + str(inspect.signature(method)))
        self.assertEqual([(object,), (Setup,), (Setup,), (object,), (object,), (object,), (object,)], [kind.__bases__ for kind in METHODS])

    def test_class_and_static_methods(self):
        self.assertIsInstance(vars(Setup)['parsed'], classmethod)
        self.assertIsInstance(vars(Setup)['plain'], staticmethod)
        self.assertEqual(('(text)', '(kinds, rule)'), (str(inspect.signature(Setup.parsed)), str(inspect.signature(Setup.plain))))

    def test_properties_are_set_when_the_object_is_created(self):
        setup = Setup(KINDS, RULES)
        for thing, names in [(setup, ['services', 'form']), (Renamed(setup), ['services', 'form', 'source']), (Only(setup), ['services', 'form', 'source']),
                             (Sight(()), ['pieces', 'bad', 'services']), (Teller(KINDS, RULES), ['kinds', 'rules', 'known']),
                             (Book(KINDS, RULES, ASKED), ['kinds', 'rules', 'questions', 'totals', 'epochs', 'MOST', 'EPOCHS', 'QUESTIONS'])]:
            for name in names:
                self.assertFalse(inspect.ismethod(getattr(thing, name)), name)
        self.assertEqual((40, 6, 6), (Book.MOST, Book.EPOCHS, Book.QUESTIONS))

    def test_generators(self):
        self.assertTrue(inspect.isgeneratorfunction(Setup.walk))

    def test_errors(self):
        self.assertEqual((ValueError,), errors.ThinError.__bases__)
        for family in ('PaperError', 'TraceError', 'BookError', 'TextError'):
            self.assertEqual((errors.ThinError,), getattr(errors, family).__bases__)
        for name, (family, fields) in ERRORS.items():
            error = getattr(errors, name)
            self.assertEqual((getattr(errors, family),), error.__bases__)
            self.assertEqual(fields, str(inspect.signature(error)))
            self.assertEqual('thinspans.errors', error.__module__)

    def test_all_modules_can_be_imported(self):
        folder = os.path.dirname(errors.__file__)
        names = sorted(name[:-3] for name in os.listdir(folder) if name.endswith('.py') and name != '__init__.py')
        for name in names:
            importlib.import_module('thinspans.' + name)
        self.assertLessEqual({*FUNCTIONS, *MODULES.values(), 'errors'}, set(names))
