"""[73], with [72], [18] and [19]."""

import random

from tests import textmodel
from tests.bookmodel import books, random_event
from tests.support import ALONE, BIG, FINE, KINDS, RULES, WRONG, Case
from tests.test_thinreadings import spoiled_text
from tests.test_thintexts import chain
from thinspans.books import Book
from thinspans.errors import InvalidText
from thinspans.eventreadings import read_event, read_log
from thinspans.eventtexts import event_line, log_lines
from thinspans.replaying import is_log
from thinspans.thintexts import tree_text

TOP, PAY = (('top', ALONE),), (('lost', (('pay', 1, ()),)),)
SIXTY = '9' * 60
EVENTS = [('seen', TOP, 1), ('seen', (), 9), ('seen', (('lost', (FINE, WRONG)), ('top', FINE)), BIG), ('mend', TOP, PAY, 12), ('mend', (), (), 1),
          ('rules', ()), ('rules', RULES), ('rules', (('z', ('or', ('bad',), ('own', 0, 4))), ('a', ('late',)))), ('ask', (0,)),
          ('ask', (1, -2, 0)), ('ask', (-BIG, int(SIXTY))), ('drop', 0), ('drop', 10), ('drop', int(SIXTY))]
LINES = ['book 3 2', 'kind front', 'kind front(pay)', 'kind front(pay!)', 'rules front=own:1/2;pay=bad', 'ask 1,1,0', 'ask 0,0,1']
LOG = (('book', KINDS, RULES, ((1, 1, 0), (0, 0, 1))),)
# Words that are no numbers, and no integers.
NO_NUMBERS = ['', 'x1', '1x', '01', '00', '-0', '-1', '+1', '1.0', '1/1', '1,1', 'a', '1a', ' 1', '1 ', '1\n', '\n', '1_0', '0x1', '-', '9' * 61, '0' + SIXTY,
              '1' + '0' * 60]
NO_INTEGERS = ['', '01', '00', '-0', '-01', '-00', '+1', '--1', '1-', '-', 'a', '1.0', '1\n', '-' + '9' * 61, '9' * 61, '-1' + '0' * 60, '1/1', '1;1']


class Lines(Case):

    def refuses(self, text, field):
        self.assertEqual(field, textmodel.line_of(text, textmodel.EVENTS))
        self.fails(InvalidText(0, field), read_event, text)
        # The same line within a log.
        for events in ([], ['drop 1', 'ask 2']):
            self.fails(InvalidText(7 + len(events), field), read_log, LINES + events + [text])
            self.fails(InvalidText(7 + len(events), field), read_log, LINES + events + [text, '', 'x'])


class ReadEvent(Lines):

    def test_events(self):
        for event in EVENTS:
            self.gives(event, read_event, event_line(event))
        for text, event in [('seen 3 ^front', ('seen', TOP, 3)), ('mend 2 ?pay! ^front', ('mend', PAY, TOP, 2)), ('drop 7', ('drop', 7)),
                            ('rules front=own:1/2;pay=bad', ('rules', RULES)), ('ask 1,-1,0', ('ask', (1, -1, 0))), ('rules -', ('rules', ())),
                            ('seen 1 -', ('seen', (), 1)), ('mend 1 - -', ('mend', (), (), 1)), ('seen 10 -', ('seen', (), 10))]:
            self.gives(event, read_event, text)
            self.assertEqual(text, event_line(event))

    def test_random_events(self):
        for chance, model in books(73, 40):
            for _ in range(20):
                event = random_event(chance, model)
                self.gives(event, read_event, event_line(event))

    def test_first_word(self):
        for text in ['', ' ', '\n', 'x', 'Seen 1 -', 'seen\n 1 -', '\nseen 1 -', ' seen 1 -', 'seens 1 -', 'see 1 -', 'book 1 1', 'kind front', 'undo',
                     'set_rules -', 'rules\n', 'drop\t0', '-', 'seen1 -', 'asks 1', 'rule -', 'seen,1,-', 'mend\n']:
            self.refuses(text, 0)

    def test_words_missing_or_too_many(self):
        for event in EVENTS:
            words = event_line(event).split(' ')
            for k in range(1, len(words)):
                self.refuses(' '.join(words[:k]), k)
                self.refuses(' '.join(words[:k]) + ' ', k)
                self.refuses(' '.join(words[:k] + [''] + words[k:]), k)
                self.refuses(' '.join(words[:k] + ['\n'] + words[k:]), k)
                self.refuses(' '.join(words[:k] + ['?'] + words[k + 1:]), k)
                self.refuses(' '.join(words[:k] + [words[k] + '\n'] + words[k + 1:]), k)
            for more in ['', ' ', 'x', words[-1], words[-1] + ' x', '\n']:
                self.refuses(' '.join(words + [more]), len(words))

    def test_words_exchanged(self):
        for text, field in [('seen ^front 3', 1), ('seen - 1', 1), ('mend 1 ^front 2', 3), ('mend ^front ?pay! 1', 1), ('mend ^front 1 ?pay!', 1),
                            ('rules 1,1', 1), ('ask front=bad', 1), ('drop -', 1), ('ask -', 1), ('seen 1 front', 2), ('seen 1 1', 2),
                            ('mend 1 ?pay! front', 3), ('mend 1 pay ^front', 2), ('rules ^front', 1), ('seen 1 a=bad', 2), ('drop 1,1', 1)]:
            self.refuses(text, field)
        # The first of several words that are not possible.
        self.refuses('mend 0 x y z', 1)
        self.refuses('mend 1 x y z', 2)
        self.refuses('mend 1 - y z', 3)
        self.refuses('mend 1 - - z', 4)

    def test_numbers(self):
        for word in NO_NUMBERS:
            spaced = 2 if word == '1 ' else 1
            self.refuses(f'seen {word} -', spaced)
            self.refuses(f'mend {word} - -', spaced)
            self.refuses(f'drop {word}', spaced)
        self.refuses('seen 0 -', 1)
        self.refuses('mend 0 - -', 1)
        self.gives(('drop', 0), read_event, 'drop 0')
        self.gives(('seen', (), int(SIXTY)), read_event, f'seen {SIXTY} -')
        self.gives(('drop', 10 ** 59), read_event, f'drop {10 ** 59}')

    def test_integers(self):
        for word in NO_INTEGERS:
            for question in (word, f'{word},1', f'1,{word}', f'0,{word},-1'):
                self.refuses(f'ask {question}', 1)
        for question in ['1,1 ', '1, 1', '1 ,1']:
            self.refuses(f'ask {question}', 1 if question == '1, 1' else 2)
        for question in [',', '1,', ',1', '1,,1', '1,1,', '(1,1)', '1,(1)', '1;1']:
            self.refuses(f'ask {question}', 1)
        self.gives(('ask', (-int(SIXTY), 0, -1, 10 ** 59)), read_event, f'ask -{SIXTY},0,-1,{10 ** 59}')

    def test_sights_and_rules(self):
        deep, more = tree_text(chain(30)), tree_text(chain(31))
        self.gives(('seen', (('lost', (chain(30),)), ('top', chain(30))), 1), read_event, f'seen 1 ?{deep}|^{deep}')
        for sight in [f'^{more}', f'?{more}', '^front|?pay', '^a|^a', '?b,a', '?a()', 'a', '^', '?', '--', '^a(c,b)', '^abcdefghi', '^A']:
            self.refuses(f'seen 1 {sight}', 2)
            self.refuses(f'mend 1 {sight} -', 2)
            self.refuses(f'mend 1 - {sight}', 3)
        for rules in ['a', 'a=own:2/1', 'a=own:01/2', 'a=bad;', 'a=bad+bad+bad', '--', 'abcdefghi=bad', f'a=own:1/{SIXTY}9']:
            self.refuses(f'rules {rules}', 1)

    def test_spoiled(self):
        chance = random.Random(731)
        counts = {True: 0, False: 0}
        for _ in range(120):
            for event in EVENTS:
                wrong = spoiled_text(chance, event_line(event))
                found = textmodel.line_of(wrong, textmodel.EVENTS)
                counts[isinstance(found, int)] += 1
                if isinstance(found, int):
                    self.fails(InvalidText(0, found), read_event, wrong)
                else:
                    self.gives(textmodel.event_of(found), read_event, wrong)
                    self.assertEqual(wrong, event_line(textmodel.event_of(found)))
        self.assertGreater(min(counts.values()), 100)


class ReadLog(Case):

    def refuses(self, lines, line, field):
        self.assertEqual((line, field), textmodel.log_of(lines))
        self.fails(InvalidText(line, field), read_log, lines)

    def test_logs(self):
        self.gives(LOG, read_log, LINES)
        events = EVENTS + [('drop', 3)] * 40
        self.gives(LOG + tuple(events), read_log, LINES + [event_line(event) for event in events])

    def test_nothing_else_is_checked(self):
        # Kinds that are equal and in any order, rules of others, questions of any length.
        self.gives((('book', (WRONG, ALONE, ALONE), (('z', ('bad',)), ('a', ('bad',))), ((1,), (1,), (0, 0, 0, 0))), ('drop', 99)), read_log,
                   ['book 3 3', 'kind front(pay!)', 'kind front', 'kind front', 'rules z=bad;a=bad', 'ask 1', 'ask 1', 'ask 0,0,0,0', 'drop 99'])
        self.gives((('book', (ALONE,), (), ((7,),)),), read_log, ['book 1 1', 'kind front', 'rules -', 'ask 7'])

    def test_logs_of_books(self):
        for chance, model in books(732, 30):
            book = Book(*model.start[1:])
            events = [random_event(chance, model) for _ in range(25)]
            for event in events:
                if book.barred(event) is None:
                    book.go(event)
            self.gives(book.log(), read_log, log_lines(book.log()))
            log = model.start, *events
            self.assertIs(True, is_log(log))
            self.gives(log, read_log, log_lines(log))

    def test_missing_lines(self):
        for many in range(7):
            self.refuses(LINES[:many], many, 0)
        self.refuses(['book 1 1'], 1, 0)
        self.refuses(['book 99 1', 'kind a', 'kind b'], 3, 0)
        self.refuses([f'book {SIXTY} {SIXTY}', 'kind a'], 2, 0)
        self.refuses([f'book 1 {SIXTY}', 'kind a', 'rules -', 'ask 1', 'ask 1'], 5, 0)
        # A line that is not possible comes ahead of those that are missing.
        self.refuses(['book 2 1', 'kind'], 1, 1)
        self.refuses(['book 2 1', 'kind a', 'kind a b'], 2, 2)
        self.refuses(['book 2 1', 'x'], 1, 0)

    def test_first_line(self):
        for line, field in [('', 0), ('book', 1), ('book ', 1), ('book 3', 2), ('book 3 ', 2), ('book  3 2', 1), ('book 3  2', 2), ('book 3 2 ', 3),
                            ('book 3 2 2', 3), ('Book 3 2', 0), (' book 3 2', 0), ('kind front', 0), ('seen 1 -', 0), ('book\n3 2', 0),
                            ('book 3 2\n', 2), ('book 3\n 2', 1), ('book 0 2', 1), ('book 3 0', 2), ('book 0 0', 1), ('3 2', 0), ('books 3 2', 0)]:
            self.refuses([line] + LINES[1:], 0, field)
            self.refuses([line], 0, field)
        for word in NO_NUMBERS:
            # The second of these has a space too many in it.
            if word != '1 ' and word != ' 1':
                self.refuses([f'book {word} 2'] + LINES[1:], 0, 1)
                self.refuses([f'book 3 {word}'] + LINES[1:], 0, 2)

    def test_numbers_that_do_not_fit(self):
        self.refuses(['book 2 2'] + LINES[1:], 3, 0)
        self.refuses(['book 4 2'] + LINES[1:], 4, 0)
        self.refuses(['book 3 3'] + LINES[1:], 7, 0)
        self.refuses(['book 3 3'] + LINES[1:] + ['drop 0'], 7, 0)
        self.refuses(['book 1 2'] + LINES[1:], 2, 0)
        self.refuses([f'book {SIXTY} 2'] + LINES[1:], 4, 0)
        # The question that is one too many is an event.
        self.gives((('book', KINDS, RULES, ((1, 1, 0),)), ('ask', (0, 0, 1))), read_log, ['book 3 1'] + LINES[1:])
        self.gives((('book', KINDS, RULES, ((1, 1, 0), (0, 0, 1), (2,))),), read_log, ['book 3 3'] + LINES[1:] + ['ask 2'])

    def test_each_line(self):
        for line in range(1, 7):
            words = LINES[line].split(' ')
            for wrong, field in [('', 0), ('\n', 0), (words[0], 1), (words[0] + ' ', 1), (LINES[line] + ' ', 2), (LINES[line] + ' x', 2),
                                 (' ' + LINES[line], 0), (LINES[line] + '\n', 1), (words[0] + ' \n', 1), (words[0] + '\n ' + words[1], 0),
                                 ('seen 1 -', 0), ('x ' + words[1], 0), (words[0] + ' x!y', 1), (words[0] + '  ' + words[1], 1), ('book 1 1', 0)]:
                self.refuses(LINES[:line] + [wrong] + LINES[line + 1:], line, field)
                self.refuses(LINES[:line] + [wrong], line, field)
                self.refuses(LINES[:line] + [wrong, '', 'x'], line, field)
        for line, wrong in [(1, 'rules -'), (1, 'ask 1'), (4, 'kind a'), (4, 'ask 1'), (5, 'rules -'), (6, 'drop 0'), (6, 'kind a')]:
            self.refuses(LINES[:line] + [wrong] + LINES[line + 1:], line, 0)

    def test_lines_missing_doubled_and_exchanged(self):
        chance = random.Random(733)
        lines = LINES + [event_line(event) for event in EVENTS]
        counts = {True: 0, False: 0}
        for _ in range(600):
            at, other = chance.randrange(len(lines)), chance.randrange(len(lines))
            swapped = list(lines)
            swapped[at], swapped[other] = lines[other], lines[at]
            wrong = chance.choice([lines[:at] + lines[at + 1:], lines[:at] + lines[at:at + 1] + lines[at:], swapped, lines[:at], lines[at:],
                                   lines[:at] + [spoiled_text(chance, lines[at])] + lines[at + 1:]])
            found = textmodel.log_of(wrong)
            counts[isinstance(found, list)] += 1
            if isinstance(found, list):
                self.gives(tuple(found), read_log, wrong)
            else:
                self.refuses(wrong, *found)
        self.assertGreater(min(counts.values()), 100)
