"""[19], with [18] and [11]; the last sentence ahead of "Stage 5"."""

import random

from tests import textmodel
from tests.support import (
    ALONE, BIG, FINE, KINDS, RULES, WRONG, Case, random_kinds, random_rule, random_rules, random_tree, setups)
from tests.test_thintexts import chain
from thinspans.errors import InvalidText
from thinspans.sighting import all_sights
from thinspans.thinreadings import rules_read, setup_read, sight_read, tree_read
from thinspans.thintexts import rules_text, setup_text, sight_text, tree_text

LETTERS = 'abz!(),=;:/+|^?-0129 \n'
SIXTY = '9' * 60


def spoiled_text(chance, text):
    """The text with one or two signs missing, doubled, exchanged, put in or moved."""
    for _ in range(chance.choice([1, 1, 1, 2])):
        at = chance.randrange(len(text) + 1)
        other = chance.randrange(len(text) + 1)
        text = chance.choice([
            text[:at] + text[at + 1:], text[:at] + text[at:at + 1] + text[at:], text[:at] + chance.choice(LETTERS) + text[at + 1:],
            text[:at] + chance.choice(LETTERS) + text[at:], text[:at] + text[at + 1:at + 2] + text[at:at + 1] + text[at + 2:],
            text[:at], text[at:], text[min(at, other):max(at, other)]])
    return text


class Words(Case):

    def reads(self, value, reader, text):
        self.gives(value, reader, text)
        for line, field in ((2, 1), (-3, BIG)):
            self.assertEqual(value, reader(text, line=line, field=field))
        self.assertEqual(value, reader(text, field=7))

    def refuses(self, reader, text, word=0):
        self.fails(InvalidText(0, word), reader, text)
        for line, field in ((2, 1), (0, 5), (9, 0), (-3, BIG)):
            self.fails_so(InvalidText(line, field + word), lambda: reader(text, line=line, field=field))
        self.fails_so(InvalidText(0, 4 + word), lambda: reader(text, field=4))
        self.fails_so(InvalidText(4, word), lambda: reader(text=text, line=4))

    def fails_so(self, error, action):
        with self.assertRaises(InvalidText) as caught:
            action()
        self.assertEqual(list(vars(error).items()), list(vars(caught.exception).items()))

    def cannot_stand(self, reader, *texts):
        for text in texts:
            self.refuses(reader, text)

    def spoiled_ones(self, reader, form, texts, seed):
        """Spoiled texts, as the other readers read them."""
        chance = random.Random(seed)
        counts = {True: 0, False: 0}
        for text in texts:
            for _ in range(12):
                wrong = spoiled_text(chance, text)
                found = textmodel.words_of(wrong.split(' '), [form])
                counts[isinstance(found, list)] += 1
                if isinstance(found, list):
                    self.gives(found[0], reader, wrong)
                else:
                    self.fails(InvalidText(0, found), reader, wrong)
        self.assertGreater(min(counts.values()), 40)

    def spaces(self, reader, good):
        for text, word in [('', 0), (' ', 0), ('  ', 0), (good + ' ', 1), (' ' + good, 0), (good + ' ' + good, 1), (good + '  ' + good, 1),
                           (good + ' ' + good + ' x', 1), ('. ' + good, 0), (good + '\n', 0), ('\n' + good, 0), ('\n', 0),
                           (good + ' \n', 1), (good[:1] + '\n' + good[1:], 0), (good + '\n' + good, 0), (good + '\t', 0)]:
            self.refuses(reader, text, word)

    def test_line_and_field_by_name_only(self):
        for reader in (tree_read, rules_read, sight_read):
            self.assertRaises(TypeError, lambda: reader('-', 1))


class Trees(Words):

    def test_example(self):
        self.gives(WRONG, tree_read, 'front(pay!)')

    def test_written_ones(self):
        chance = random.Random(19)
        for tree in [ALONE, FINE, WRONG, ('abcdefgh', 1, ()), ('a', 0, (ALONE,) * 400), ('z', 1, (FINE, WRONG, ('zz', 0, ())))] + [
                random_tree(chance, chance.randint(1, 9), 'ab') for _ in range(200)]:
            self.reads(tree, tree_read, tree_text(tree))

    def test_names(self):
        self.reads(('a', 0, ()), tree_read, 'a')
        self.reads(('abcdefgh', 0, ()), tree_read, 'abcdefgh')
        self.cannot_stand(tree_read, 'abcdefghi', 'A', 'a1', '1', 'a_b', 'a-b', '-', 'a.', 'a(abcdefghi)', 'a(B)', 'a()', '(a)', '!', 'a(!)')

    def test_signs(self):
        self.cannot_stand(
            tree_read, 'a!!', '!a', 'a(b', 'a)', 'a(b))', 'a((b)', 'a((b))', 'a(b)!', 'a(b)c', 'a(b)(c)', 'a(b,)', 'a(,b)', 'a(b,,c)', 'a,b',
            'a,', ',a', ',', 'a(b);', 'a(b)|c', '^a', '?a', 'a=b', 'a:1/2', 'a+b', 'a(b:c)', 'a(b)(', 'a(', '(', ')', '()', 'a)b(', 'a(b),',
            'a(b),c', 'a(b),c(d)', 'a()b', 'a(b!c)', 'a(b(c),d', 'a(b(c,d)', 'a!(b!', 'a!(!)', 'a(b)),(c', 'a(b),(c)', 'a(b(),c)', 'a(())')

    def test_order(self):
        self.reads(('a', 0, (('b', 0, ()), ('b', 0, ()), ('b', 1, ()))), tree_read, 'a(b,b,b!)')
        self.cannot_stand(tree_read, 'a(c,b)', 'a(b!,b)', 'a(b(c),b)', 'a(b,a,c)', 'a(a(b,c,a),b)', 'z(a(b!(c,b)))')
        self.reads(('a', 0, (('b', 0, (('c', 0, ()),)), ('b', 1, ()))), tree_read, 'a(b(c),b!)')

    def test_in_a_row(self):
        for spans in (29, 30):
            for mark in (0, 1):
                self.reads(chain(spans, mark), tree_read, tree_text(chain(spans, mark)))
        for spans in (31, 32, 200, 900):
            self.refuses(tree_read, tree_text(chain(spans)))
        # Beside others.
        self.reads(('a', 0, (chain(29), ('b', 0, ()))), tree_read, f'a({tree_text(chain(29))},b)')
        self.refuses(tree_read, f'a({tree_text(chain(30))},b)')
        self.refuses(tree_read, f'a(a,{tree_text(chain(30))})')

    def test_spaces_and_newlines(self):
        self.spaces(tree_read, 'front(pay!)')
        self.refuses(tree_read, 'a( b)', 0)
        self.refuses(tree_read, 'a (b)', 1)
        self.refuses(tree_read, 'a(b, c)', 0)

    def test_spoiled(self):
        chance = random.Random(191)
        texts = [tree_text(random_tree(chance, chance.randint(1, 6), 'ab')) for _ in range(150)]
        self.spoiled_ones(tree_read, 'tree', texts, 192)

    def test_great_nonsense(self):
        for text in ['a(' * 2000, '(' * 4000, ')' * 4000, ',' * 4000, 'a,' * 2000, 'a(' + 'b,' * 1998 + ')', 'a' * 4000, 'a()' * 1300]:
            self.refuses(tree_read, text)


class Rules(Words):

    def test_written_ones(self):
        chance = random.Random(193)
        self.reads(RULES, rules_read, 'front=own:1/2;pay=bad')
        self.reads((), rules_read, '-')
        for rules in [(('b', ('bad',)), ('a', ('late',)), ('b', ('bad',))), (('abcdefgh', ('caller',)),), (('never', ('never',)),)] + [
                tuple((chance.choice(['a', 'b', 'zz']), random_rule(chance, 12)) for _ in range(chance.randint(1, 4))) for _ in range(200)]:
            self.reads(rules, rules_read, rules_text(rules))

    def test_words(self):
        for rule, text in [(('never',), 'never'), (('caller',), 'caller'), (('bad',), 'bad'), (('late',), 'late'), (('own', 0, 1), 'own:0/1'),
                           (('shared', 12, 12), 'shared:12/12'), (('or', ('bad',), ('own', 2, 4)), 'bad+own:2/4'),
                           (('or', ('shared', 0, 3), ('own', 1, 1)), 'shared:0/3+own:1/1'), (('or', ('late',), ('late',)), 'late+late')]:
            self.reads((('a', rule),), rules_read, 'a=' + text)
            self.reads((('a', rule), ('a', rule)), rules_read, f'a={text};a={text}')

    def test_wrong_rules(self):
        for text in ['', 'all', 'Never', 'nevers', 'neve', 'or', 'own', 'shared', 'own:', 'own:/', 'own:1', 'own:1/', 'own:/2', 'own:1:2',
                     'own:1/2/3', 'own:1/2:3', 'own::1/2', 'own:1//2', 'own:2/1', 'own:1/0', 'own:0/0', 'own:-1/2', 'own:1/-2', 'own:+1/2',
                     'own:a/b', 'own:1/2a', 'own:1.5/2', 'never:1/2', 'bad:0/1', 'bad:', 'own/1:2', 'own1/2', 'own:1+2', 'bad+', '+bad', '+',
                     'bad++bad', 'bad+bad+bad', 'bad+late+own:1/2', 'bad+or', 'or:bad+bad', 'or+bad', 'bad,late', 'bad|late', 'bad/late',
                     '(bad)', 'bad!', 'bad=bad', '-', 'own:1/2=bad', '=bad', 'bad+own:2/1', 'own:01/2', 'own:1/02', 'own:00/1', 'own:1/2 ']:
            self.refuses(rules_read, f'a={text}', 1 if text.endswith(' ') else 0)
            self.refuses(rules_read, f'a=bad;b={text}', 1 if text.endswith(' ') else 0)
            if not text.endswith(' '):
                self.refuses(rules_read, f'a={text};b=bad')

    def test_signs(self):
        self.cannot_stand(rules_read, '=', ';', 'a', 'a=', '=bad', 'bad', ';a=bad', 'a=bad;', 'a=bad;;b=bad', 'a=bad,b=bad', 'a:bad', 'a==bad',
                          'a=bad;b', 'a=bad;=bad', 'a=bad;-', '-;a=bad', '--', 'abcdefghi=bad', 'A=bad', 'a1=bad', 'a!=bad', 'a(b)=bad',
                          '-=bad', 'a=bad-', 'a;b=bad')
        self.reads((('abcdefgh', ('bad',)),), rules_read, 'abcdefgh=bad')

    def test_digits(self):
        self.reads((('a', ('own', int(SIXTY) - 1, int(SIXTY))),), rules_read, f'a=own:{int(SIXTY) - 1}/{SIXTY}')
        self.reads((('a', ('shared', 0, 10 ** 59)),), rules_read, f'a=shared:0/1{"0" * 59}')
        self.cannot_stand(rules_read, f'a=own:1/{SIXTY}9', f'a=own:1{"0" * 60}/1{"0" * 60}', f'a=own:0{SIXTY}/{SIXTY}', f'a=own:1/0{SIXTY[1:]}',
                          f'a=own:{SIXTY}/1', 'a=own:0/00', 'a=own:000/1')

    def test_spaces_and_newlines(self):
        self.spaces(rules_read, 'a=own:1/2;b=bad')
        self.spaces(rules_read, '-')
        for text, word in [('a= bad', 0), ('a =bad', 0), ('a=bad; b=bad', 0), ('a=bad ;b=bad', 1), ('a=own:1/ 2', 0)]:
            self.refuses(rules_read, text, word)

    def test_spoiled(self):
        chance = random.Random(194)
        texts = [rules_text(tuple((chance.choice('ab'), random_rule(chance, 12)) for _ in range(chance.randint(0, 3)))) for _ in range(150)]
        self.spoiled_ones(rules_read, 'rules', texts, 195)


class Sights(Words):

    def test_example(self):
        self.fails_so(InvalidText(2, 1), lambda: sight_read('^front|?pay', line=2, field=1))

    def test_written_ones(self):
        self.reads((), sight_read, '-')
        for sight in [(('top', ALONE),), (('lost', (FINE, WRONG)), ('top', ALONE)), (('lost', (ALONE,)),) * 3,
                      (('lost', (ALONE, ALONE)), ('lost', (ALONE,)), ('lost', (FINE,)))]:
            self.reads(tuple(sorted(sight)), sight_read, sight_text(tuple(sorted(sight))))
        for _, kinds, rules in setups(196, 40):
            for sight in all_sights(kinds, rules):
                self.reads(sight, sight_read, sight_text(sight))

    def test_signs(self):
        self.cannot_stand(sight_read, 'a', '^', '?', '|', '^a|', '|^a', '?a||^a', '^a,b', '^^a', '??a', '^?a', '?^a', 'a^', '^a^', '^a?b', '?a?b',
                          '?a,', '?,a', '?a,,b', '?()', '^-', '?-', '--', '-|-', '-|^a', '?a|-', '^a;?b', '?a+b', '^a()', '?a()', 'top', '?A',
                          '^abcdefghi', '?abcdefghi', '!a', '?(a)', '?(a,b)', '?a|b')

    def test_order_and_tops(self):
        self.reads((('lost', (('a', 0, ()),)), ('top', ('a', 0, ()))), sight_read, '?a|^a')
        self.cannot_stand(sight_read, '^a|?a', '^a|^a', '^a|^b', '?b|?a', '?b,a', '?a!,a', '?a|?a,b|?a', '?a|^a|^b', '?a(c,b)', '^a(c,b)', '^a(b!,b)',
                          '?a,b|?a')
        self.reads((('lost', (('a', 0, ()),)), ('lost', (('a', 0, ()), ('b', 0, ())))), sight_read, '?a|?a,b')

    def test_in_a_row(self):
        deep, more = tree_text(chain(30)), tree_text(chain(31))
        # The lost caller does not count.
        self.reads((('lost', (chain(30), chain(30))), ('top', chain(30))), sight_read, f'?{deep},{deep}|^{deep}')
        self.cannot_stand(sight_read, f'^{more}', f'?{more}', f'?{deep},{more}', f'?{deep}|^{more}', f'?{more}|^{deep}')

    def test_spaces_and_newlines(self):
        self.spaces(sight_read, '?pay|^front')
        self.spaces(sight_read, '-')
        for text, word in [('? a', 0), ('?a |^a', 1), ('?a| ^a', 0), ('^a(b, c)', 0)]:
            self.refuses(sight_read, text, word)

    def test_spoiled(self):
        texts = [sight_text(sight) for _, kinds, rules in setups(197, 40, size=4) for sight in all_sights(kinds, rules)[:5]]
        self.spoiled_ones(sight_read, 'sight', texts, 198)


class Setups(Case):

    def refuses(self, text, line, field):
        self.assertEqual((line, field), textmodel.setup_of(text))
        self.fails(InvalidText(line, field), setup_read, text)

    def test_example(self):
        self.refuses('kind front', 1, 0)

    def test_written_ones(self):
        chance = random.Random(199)
        for _ in range(60):
            kinds = random_kinds(chance, 5, 5)
            rules = random_rules(chance, kinds, 12)
            self.gives((kinds, rules), setup_read, setup_text(kinds, rules))

    def test_none_equal_and_in_any_order(self):
        self.gives(((), ()), setup_read, 'rules -')
        self.gives(((), RULES), setup_read, 'rules front=own:1/2;pay=bad')
        self.gives(((WRONG, ALONE, ALONE), ()), setup_read, 'kind front(pay!)\nkind front\nkind front\nrules -')
        self.gives(((ALONE,), (('z', ('bad',)), ('a', ('bad',)), ('z', ('bad',)))), setup_read, 'kind front\nrules z=bad;a=bad;z=bad')
        self.gives((KINDS + (chain(30),), ()), setup_read, setup_text(KINDS + (chain(30),), ()))

    def test_missing_rules(self):
        self.refuses('kind a\nkind b', 2, 0)
        self.refuses('', 0, 0)
        self.refuses('kind a\n', 1, 0)
        self.refuses('\n', 0, 0)

    def test_behind_the_rules(self):
        for rest in ('', 'rules -', 'kind a', 'x', ' ', '\n', 'kind', '\nkind a'):
            self.refuses('rules -\n' + rest, 1, 0)
            self.refuses('kind a\nkind b\nrules a=bad\n' + rest, 3, 0)

    def test_words(self):
        for text, field in [('kind', 1), ('kind ', 1), ('kind  a', 1), ('kind a ', 2), ('kind a b', 2), ('kind a  b', 2), (' kind a', 0),
                            ('Kind a', 0), ('kinds a', 0), ('rules', 1), ('rules ', 1), ('rules -  ', 2), ('rules - -', 2), ('rule -', 0), ('', 0),
                            (' ', 0), ('a', 0), ('front', 0), ('kind a(', 1), ('kind a(c,b)', 1), ('rules a', 1), ('rules a=bad;', 1), ('kind -', 1),
                            ('kind a! b', 2), ('kind\ta', 0), ('seen 1 -', 0), ('kind ' + tree_text(chain(31)), 1), ('rules  -', 1)]:
            self.refuses(text, 0, field)
            self.refuses('kind a\n' + text, 1, field)
            self.refuses('kind a\n' + text + '\nrules -', 1, field)
            # The first line that is not possible, whatever comes behind it.
            self.refuses('kind a\n' + text + '\nx\n', 1, field)

    def test_spoiled(self):
        chance = random.Random(200)
        counts = {True: 0, False: 0}
        for _ in range(150):
            kinds = random_kinds(chance, 3, 3, 'ab')
            text = setup_text(kinds, random_rules(chance, kinds))
            for _ in range(10):
                wrong = spoiled_text(chance, text)
                found = textmodel.setup_of(wrong)
                counts[isinstance(found, list)] += 1
                if isinstance(found, list):
                    self.gives(tuple(found), setup_read, wrong)
                    # What stands is the writing of what it writes, and of nothing else.
                    self.assertEqual(wrong, setup_text(*found))
                else:
                    self.refuses(wrong, *found)
        self.assertGreater(min(counts.values()), 40)
