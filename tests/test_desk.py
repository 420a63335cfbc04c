"""[76], with [18], [19] and [61] to [73]; the whole way from the text of a log to a desk, and back."""

from tests.bookmodel import books, random_event
from tests.deskmodel import Model, event_text, number_text, start_text
from tests.support import BIG, KINDS, RULES, Case, same, strange_values
from tests.test_books import ASKED, BOTH, EVERY, NEVER, PAY, THIRD, TOP, WHOLE
from tests.test_thinreadings import spoiled_text
from thinspans.books import Book
from thinspans.desk import Desk
from thinspans.errors import InvalidEvent, InvalidPaper, InvalidRow, NothingToUndo, NotTold, NotUsable, ThinError
from thinspans.eventreadings import read_log
from thinspans.eventtexts import log_lines
from thinspans.replaying import replayed
from thinspans.thintexts import rules_text

START = 'book 3 2\nkind front\nkind front(pay)\nkind front(pay!)\nrules front=own:1/2;pay=bad\nask 1,1,0\nask 0,0,1'
LINES = START.split('\n')
PLAIN = ['undo', 'events', 'log', 'totals', 'questions', 'rules', 'counts', 'epochs', 'table']
ASKING = ['weight 0', 'weight 1', 'weight 9', 'total 2,2,5', 'total 1,0,0', 'lost -', 'lost front=never;pay=bad']
EVENTS = ['seen 3 ^front', 'seen 2 ?pay!', 'mend 1 ?pay! ^front(pay!)', 'rules front=own:1/3;pay=bad', 'ask 2,2,-1', 'drop 0']
# Rows that no desk knows.
NO_ROWS = ['', ' ', '\n', '-', 'x', 'ok', 'tally', 'kinds', 'say', 'book', 'kind front', 'ask', 'drop', 'seen', 'mend', 'weight', 'total', 'lost', 'seen 1', 'seen 0 ^front',
           'seen ^front 1', 'seen 1  ^front', ' seen 1 ^front', 'seen 1 ^front ', 'seen 1 ^front\n', '\nseen 1 ^front', 'seen 1 ^front x', 'seen 1 front', 'seen 01 ^front',
           'seen 1 ^front^', 'mend 1 ^front', 'mend 1 ^front ?pay! 1', 'mend ^front ?pay! 1', 'mend 1  ^front ?pay!', 'drop -1', 'drop x', 'drop 0 0', 'drop  0', 'ask 1,1,',
           'ask 1 1 0', 'ask 1,1,0 ', 'rules front=never;pay', 'rules  -', 'rules - ', 'rules -\n', 'weight -1', 'weight 00', 'weight x', 'weight 0 0', 'weight  0', 'weight 0 ',
           'weight ', 'weight\n0', 'total 1,x', 'total ', 'total 1, 1', 'total 1,1,0 1', 'total 1,1,0\n', 'total -0', 'lost ', 'lost x', 'lost - -', 'lost front=x', 'lost\n-',
           'lost -\n', 'weight,0', 'Undo', 'undo ', ' undo', 'undo\n', '\nundo', 'undo undo', 'undo 1', 'events 0', 'events ', 'log -', 'totals ', 'totals\n', 'questions 0',
           'counts 1', 'epochs  ', 'table 0', 'rules ', 'rules\n', 'undo\nundo', 'undo / undo', 'seen 1 ^front / drop 0', 'seen 1 ^front\ndrop 0', 'weight ' + '9' * 61,
           'total ' + '9' * 61, 'seen ' + '9' * 61 + ' ^front', 'undo' * 1000, START + '\n', '\n' + START, START + '\nseen 1 ^front', START + '\nundo', START + ' ',
           START.replace('\n', ' '), START.replace('\n', ' / '), '\n'.join(LINES[:-1]), '\n'.join(LINES[1:]), START.replace('3 2', '3 3'), START.replace('3 2', '2 2'),
           START.replace('3 2', '3 0'), START.replace('3 2', '03 2'), START.replace('ask 0,0,1', 'seen 1 ^front'), START.replace('bad', 'good'), START.replace('kind', 'kinds')]
# Lines of which no book can be made, with the error.
NO_BOOKS = [(START.replace('kind front(pay)', 'kind front'), InvalidPaper('rise', 1)), (START.replace('front=own:1/2;', ''), InvalidPaper('many', -1)),
            (START.replace('front=own:1/2;pay=bad', 'pay=bad;front=own:1/2'), InvalidPaper('service', 0)),
            (START.replace('front=own:1/2;pay=bad', '-'), InvalidPaper('many', -1)), (START.replace('0,0,1', '1,1,0'), NotUsable('questions', -1)),
            (START.replace('0,0,1', '0,1'), NotUsable('questions', -1)), (START.replace('0,0,1', '1,0,0'), NotTold((1, 0, 0))),
            (START.replace('0,0,1', '0,0,1').replace('1,1,0', '0,1,0'), NotTold((0, 1, 0))),
            (START.replace('3 2', '3 7') + ''.join(f'\nask 0,0,{k}' for k in range(2, 7)), NotUsable('questions', -1)),
            (START.replace('bad', 'never').replace('own:1/2', 'never'), NotTold((1, 1, 0)))]


class DeskCase(Case):

    def refuses(self, desk, row, error):
        many = desk.tally()[0]
        for k, action in enumerate([lambda: desk.say(row), lambda: desk.say(row=row)]):
            self.fails_so(error, action)
            self.assertTrue(same((many + k + 1,) * 2, desk.tally()))

    def answers(self, desk, row, answer):
        many = desk.tally()[0]
        self.assertTrue(same(answer, desk.say(row)), row)
        self.assertTrue(same((many + 1,) * 2, desk.tally()))

    def goes_along(self, desk, model, row):
        """That the desk says the same as the model; returns whether it is an answer."""
        wanted, found = self.outcome(lambda: model.say(row)), self.outcome(lambda: desk.say(row))
        if isinstance(wanted, ThinError):
            self.assertIs(type(wanted), type(found), (row, found))
            self.assertTrue(same(list(vars(wanted).items()), list(vars(found).items())), (row, vars(found)))
            return False
        self.assertTrue(same(wanted, found), (row, wanted, found))
        return True


def started():
    desk = Desk()
    desk.say(START)
    return desk


class ByHand(DeskCase):

    def test_before_the_first_book(self):
        desk = Desk()
        self.assertTrue(same((0, 0), desk.tally()))
        for row in NO_ROWS + PLAIN + ASKING + EVENTS:
            self.refuses(desk, row, InvalidRow(row))
        # A book that cannot be made is none.
        for row, error in NO_BOOKS:
            self.refuses(desk, row, error)
            self.refuses(desk, 'events', InvalidRow('events'))
        self.answers(desk, START, 'ok')
        self.answers(desk, 'events', '0')

    def test_rows_that_no_desk_knows(self):
        desk = started()
        desk.say(EVENTS[0])
        for row in NO_ROWS + [thing for thing in strange_values() if isinstance(thing, str)]:
            self.refuses(desk, row, InvalidRow(row))
        self.answers(desk, 'log', EVENTS[0])

    def test_a_new_book(self):
        desk = started()
        for row, answer in [('events', '0'), ('log', '-'), ('totals', '0 0'), ('questions', '1,1,0 0,0,1'), ('rules', 'front=own:1/2;pay=bad'), ('counts', '-'), ('epochs', '1'),
                            ('table', ' 0 1,1,0 0 /  1 0,0,1 0')]:
            self.answers(desk, row, answer)
        self.refuses(desk, 'undo', NothingToUndo(0))

    def test_events(self):
        desk = started()
        for row, answer in zip(EVENTS, ['6 0', '6 2', '6 2', '6 2', '6 2 10', '2 10']):
            self.answers(desk, row, answer)
        for row, answer in [('events', '6'), ('log', ' / '.join(EVENTS)), ('totals', '2 10'), ('questions', '0,0,1 2,2,-1'), ('rules', 'front=own:1/3;pay=bad'), ('counts', '-'),
                            ('epochs', '2'), ('table', ' 0 0,0,1 2 /  1 2,2,-1 10'), ('seen 1 ?pay!', '3 9'), ('counts', '1*?pay!')]:
            self.answers(desk, row, answer)
        for row in ['seen 1 ?pay!'] + EVENTS[::-1]:
            self.answers(desk, 'undo', row)
        self.refuses(desk, 'undo', NothingToUndo(0))
        self.answers(desk, 'totals', '0 0')

    def test_counts(self):
        desk = started()
        for row in EVENTS[:3]:
            desk.say(row)
        self.answers(desk, 'counts', '1*?pay! 3*^front 1*^front(pay!)')
        desk.say('mend 3 ^front ?pay!')
        self.answers(desk, 'counts', '4*?pay! 1*^front(pay!)')
        # A new epoch has none.
        desk.say(EVENTS[3])
        self.answers(desk, 'counts', '-')
        desk.say(f'seen {BIG} ^front')
        self.answers(desk, 'counts', f'{BIG}*^front')
        self.answers(desk, 'totals', f'{3 * BIG} 5')

    def test_fractions_and_numbers_below_0(self):
        desk = Desk()
        desk.say('book 1 3\nkind a\nrules a=own:2/3\nask 1\nask -1\nask 0')
        self.answers(desk, 'seen 3 ^a', '9/2 -9/2 0')
        self.answers(desk, 'table', ' 0 1 9/2 /  1 -1 -9/2 /  2 0 0')
        for k, answer in enumerate(['3/2*^a', '-3/2*^a', '-']):
            self.answers(desk, f'weight {k}', answer)
        for row, answer in [('total -5', '-45/2'), ('total 2', '9'), ('total 0', '0'), ('total -2', '-9'), (f'total {BIG}', f'{9 * BIG}/2'), ('lost a=never', '0 1'),
                            ('lost a=own:1/9', '-')]:
            self.answers(desk, row, answer)

    def test_weights(self):
        desk = started()
        self.answers(desk, 'weight 0', '2*^front')
        self.answers(desk, 'weight 1', '1*?pay! 1*^front(pay!)')
        for k in (2, 3, int('9' * 60)):
            self.refuses(desk, f'weight {k}', NotUsable('question', k))
        # In the present epoch.
        desk.say('rules front=own:1/3;pay=bad')
        self.answers(desk, 'weight 0', '3*^front')
        desk.say('drop 0')
        self.answers(desk, 'weight 0', '1*?pay! 1*^front(pay!)')
        self.refuses(desk, 'weight 1', NotUsable('question', 1))

    def test_total(self):
        desk = started()
        for row in EVENTS[:3]:
            desk.say(row)
        for row, answer in [('total 1,1,0', '6'), ('total 2,2,-1', '10'), ('total 0,0,0', '0'), ('total 1,0,0', '-'), ('total 1,2,5', '-'), ('total -1,-1,0', '-6')]:
            self.answers(desk, row, answer)
        for word in ('1', '1,1', '1,1,0,0', '0'):
            self.refuses(desk, 'total ' + word, NotUsable('question', -1))
        self.answers(desk, 'events', '3')

    def test_lost(self):
        desk = started()
        for rules, answer in [(RULES, '-'), (NEVER, '0'), (THIRD, '-'), (EVERY, '-'), ((('front', ('never',)), ('pay', ('never',))), '0 1'),
                              ((('front', ('bad',)), ('pay', ('or', ('caller',), ('bad',)))), '0')]:
            self.answers(desk, 'lost ' + rules_text(rules), answer)
        for word, error in [('-', InvalidPaper('many', -1)), ('front=bad', InvalidPaper('many', -1)), ('pay=bad;front=bad', InvalidPaper('service', 0)),
                            ('front=bad;paid=bad', InvalidPaper('service', 1)), ('front=bad;pay=bad;z=bad', InvalidPaper('many', -1)),
                            ('front=bad;front=bad', InvalidPaper('service', 1))]:
            self.refuses(desk, 'lost ' + word, error)

    def test_events_that_are_not_possible(self):
        desk = started()
        desk.say(EVENTS[0])
        for row, event, reason in [
                ('seen 1 ^front(pay)', ('seen', WHOLE, 1), 'sight'), ('seen 1 -', ('seen', (), 1), 'sight'), ('mend 1 ^front ^front(pay)', ('mend', TOP, WHOLE, 1), 'sight'),
                ('mend 9 ^front ^front', ('mend', TOP, TOP, 9), 'same'), ('mend 4 ^front ?pay!', ('mend', TOP, PAY, 4), 'few'), ('rules -', ('rules', ()), 'rules'),
                ('rules pay=bad', ('rules', (('pay', ('bad',)),)), 'rules'), ('rules front=own:1/2;pay=bad', ('rules', RULES), 'same'),
                ('rules front=never;pay=bad', ('rules', NEVER), 'told'), ('ask 1', ('ask', (1,)), 'question'), ('ask 1,1,0', ('ask', (1, 1, 0)), 'there'),
                ('ask 1,0,0', ('ask', (1, 0, 0)), 'told'), ('drop 2', ('drop', 2), 'question'), (f'drop {BIG}', ('drop', BIG), 'question')]:
            self.refuses(desk, row, InvalidEvent(event, reason))
        desk.say('drop 0')
        self.refuses(desk, 'drop 0', InvalidEvent(('drop', 0), 'last'))
        for _ in range(38):
            desk.say('seen 1 ^front')
        self.refuses(desk, 'seen 1 ^front', InvalidEvent(('seen', TOP, 1), 'full'))
        self.refuses(desk, 'drop 9', InvalidEvent(('drop', 9), 'full'))
        self.answers(desk, 'events', '40')

    def test_many_questions_and_epochs(self):
        desk = started()
        for k in range(4):
            desk.say(f'ask 0,0,{k + 2}')
        self.refuses(desk, 'ask 0,0,9', InvalidEvent(('ask', (0, 0, 9)), 'many'))
        # Whether there is room for it or not.
        self.answers(desk, 'total 0,0,9', '0')
        for k in range(5):
            desk.say(f'rules front=own:1/{k + 3};pay=bad')
        self.refuses(desk, 'rules front=own:1/9;pay=bad', InvalidEvent(('rules', (('front', ('own', 1, 9)), ('pay', ('bad',)))), 'many'))
        self.answers(desk, 'epochs', '6')

    def test_another_book(self):
        desk = started()
        for row in EVENTS:
            desk.say(row)
        # What cannot be made leaves the one that is there.
        log, table = desk.say('log'), desk.say('table')
        for row, error in NO_BOOKS:
            self.refuses(desk, row, error)
            self.answers(desk, 'log', log)
            self.answers(desk, 'table', table)
        self.answers(desk, 'book 1 1\nkind a!\nrules a=bad\nask 7', 'ok')
        for row, answer in [('log', '-'), ('questions', '7'), ('weight 0', '7*^a!'), ('seen 2 ^a!', '14')]:
            self.answers(desk, row, answer)
        # The same lines again: a new book.
        self.answers(desk, START, 'ok')
        self.answers(desk, START, 'ok')
        self.answers(desk, 'table', ' 0 1,1,0 0 /  1 0,0,1 0')

    def test_tally(self):
        desk = Desk()
        rows = ['undo', START, 'undo', 'events', 'x', '', 'seen 1 ^front', 'seen 1 -', 'weight 9', 'total 1', 'lost -', NO_BOOKS[0][0], START, 'log']
        for k, row in enumerate(rows):
            self.assertTrue(same((k, k), desk.tally()))
            self.outcome(lambda: desk.say(row))
        self.assertTrue(same((len(rows), len(rows)), desk.tally()))

    def test_two_desks_do_not_share(self):
        one, two = started(), started()
        one.say(EVENTS[0])
        self.answers(two, 'events', '0')
        self.refuses(Desk(), 'events', InvalidRow('events'))
        self.assertTrue(same((2, 2), one.tally()))


class Words(DeskCase):

    def test_words_missing_too_many_exchanged_and_empty(self):
        desk, model = started(), Model()
        model.say(START)
        for row in EVENTS[:3]:
            desk.say(row)
            model.say(row)
        for row in PLAIN[1:] + ASKING + EVENTS:
            words = row.split(' ')
            rows = [' '.join(words[:k] + words[k + 1:]) for k in range(len(words))]
            rows += [' '.join(words[:k] + [word] + words[k:]) for k in range(len(words) + 1) for word in ('', 'x', '1', '-', 'undos', '\n')]
            rows += [' '.join(words[:k] + [''] + words[k + 1:]) for k in range(len(words))]
            rows += [' '.join(words[:k] + [words[n]] + words[k + 1:n] + [words[k]] + words[n + 1:]) for n in range(len(words)) for k in range(n)]
            rows += [row + '\n', '\n' + row, row + ' ', ' ' + row, row.replace(' ', '  '), row.replace(' ', '\n'), row.upper(), row * 2, row + ' / ' + row, row + '\n' + row]
            for other in rows:
                self.goes_along(desk, model, other)
        self.assertEqual(model.book.log(), read_log(START.split('\n') + desk.say('log').split(' / ')))

    def test_lines_missing_doubled_and_exchanged(self):
        for k in range(len(LINES)):
            rows = ['\n'.join(LINES[:k] + LINES[k + 1:]), '\n'.join(LINES[:k] + [LINES[k]] + LINES[k:]), '\n'.join(LINES[:k] + [''] + LINES[k:]),
                    '\n'.join(LINES[:k] + [LINES[k] + ' '] + LINES[k + 1:]), '\n'.join(LINES[:k] + [' ' + LINES[k]] + LINES[k + 1:]), '\n'.join(LINES[:k])]
            rows += ['\n'.join(LINES[:k] + [LINES[n]] + LINES[k + 1:n] + [LINES[k]] + LINES[n + 1:]) for n in range(k + 1, len(LINES))]
            for row in rows:
                for desk in (Desk(), started()):
                    model = Model()
                    if desk.tally() != (0, 0):
                        model.say(START)
                    self.goes_along(desk, model, row)
                    self.goes_along(desk, model, 'table')

    def test_spoiled(self):
        counts = {True: 0, False: 0}
        for chance, book in books(76, 30):
            desk, model = Desk(), Model()
            start = start_text(*book.start[1:])
            for row in [spoiled_text(chance, start) for _ in range(10)] + [start]:
                counts[self.goes_along(desk, model, row)] += 1
            for _ in range(60):
                row = chance.choice(PLAIN + ASKING + ['weight 0', 'weight 1', start]) if chance.random() < 0.4 else event_text(random_event(chance, book))
                if chance.random() < 0.4:
                    row = spoiled_text(chance, row)
                counts[self.goes_along(desk, model, row)] += 1
                if model.book is not None:
                    book.start, book.events = model.book.log()[0], list(model.book.log()[1:])
        self.assertGreater(min(counts.values()), 300)


class TheWholeWay(DeskCase):

    def test_log_to_desk_and_back(self):
        for chance, model in books(761, 40):
            book = Book(*model.start[1:])
            desk = Desk()
            self.answers(desk, '\n'.join(log_lines(book.log())), 'ok')
            for _ in range(25):
                event = random_event(chance, model)
                if book.barred(event) is None:
                    book.go(event)
                    model.events.append(event)
                    self.answers(desk, event_text(event), ' '.join(map(number_text, book.totals)))
                else:
                    self.refuses(desk, event_text(event), InvalidEvent(event, book.barred(event)))
            self.assertEqual(model.totals(), book.totals)
            # The log is written, read and replayed, and spoken to a second desk line by line.
            log = read_log(log_lines(book.log()))
            other, second = replayed(log), Desk()
            begin = len(model.start[1]) + len(model.start[3]) + 2
            lines = log_lines(log)
            second.say('\n'.join(lines[:begin]))
            for line in lines[begin:]:
                second.say(line)
            for one in (desk, second):
                self.answers(one, 'table', ' / '.join(other.table()))
                self.answers(one, 'totals', ' '.join(map(number_text, other.totals)))
                self.answers(one, 'log', str(other))
            self.assertTrue(same(book.log(), log))
            self.assertTrue(same((0, 0), other.tally()))
            # Back to the beginning.
            for event in book.log()[:0:-1]:
                self.answers(desk, 'undo', event_text(event))
            self.answers(desk, 'log', '-')

    def test_events_of_the_example(self):
        desk, book = started(), Book(KINDS, RULES, ASKED)
        for event in [('seen', TOP, 3), ('seen', PAY, 2), ('mend', PAY, BOTH, 1), ('rules', THIRD), ('seen', TOP, 1)]:
            self.answers(desk, event_text(event), ' '.join(map(number_text, book.go(event))))
        self.answers(desk, 'table', ' 0 1,1,0 9 /  1 0,0,1 2')
        self.answers(desk, 'table', ' / '.join(book.table()))
