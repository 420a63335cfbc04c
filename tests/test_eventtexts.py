"""[72], with [18] and [61]: events and logs as lines."""

from tests.bookmodel import books, random_event
from tests.support import ALONE, BIG, FINE, KINDS, RULES, WRONG, Case, same
from tests.test_thintexts import chain, written_rules, written_sight, written_tree
from thinspans.books import Book
from thinspans.eventtexts import event_line, log_lines

TOP, PAY = (('top', ALONE),), (('lost', (('pay', 1, ()),)),)
EVERY = (('front', ('own', 1, 1)), ('pay', ('or', ('bad',), ('shared', 2, 4))))
MANY = (('lost', (FINE, WRONG)), ('lost', (ALONE,)), ('top', FINE))


def written_event(event):
    word, *parts = event
    if word in ('seen', 'mend'):
        return ' '.join([word, str(parts[-1])] + [written_sight(sight) for sight in parts[:-1]])
    if word == 'rules':
        return 'rules ' + written_rules(parts[0])
    return f'ask {",".join(map(str, parts[0]))}' if word == 'ask' else f'drop {parts[0]}'


class EventLine(Case):

    def test_seen(self):
        self.gives('seen 3 ^front', event_line, ('seen', TOP, 3))
        self.gives('seen 1 -', event_line, ('seen', (), 1))
        self.gives(f'seen {BIG} ?front(pay),front(pay!)|?front|^front(pay)', event_line, ('seen', MANY, BIG))
        self.gives('seen 2 ^' + 'a(' * 29 + 'z' + ')' * 29, event_line, ('seen', (('top', chain(30)),), 2))

    def test_mend(self):
        self.gives('mend 1 ?pay! ^front', event_line, ('mend', PAY, TOP, 1))
        self.gives('mend 999 ^front ?pay!', event_line, ('mend', TOP, PAY, 999))
        self.gives('mend 10 - -', event_line, ('mend', (), (), 10))

    def test_rules(self):
        self.gives('rules front=own:1/1;pay=bad+shared:2/4', event_line, ('rules', EVERY))
        self.gives('rules -', event_line, ('rules', ()))
        self.gives('rules z=bad;a=late;z=bad', event_line, ('rules', (('z', ('bad',)), ('a', ('late',)), ('z', ('bad',)))))

    def test_ask(self):
        self.gives('ask 1,-1,0', event_line, ('ask', (1, -1, 0)))
        self.gives('ask 0', event_line, ('ask', (0,)))
        self.gives(f'ask {-BIG},{BIG}', event_line, ('ask', (-BIG, BIG)))

    def test_drop(self):
        self.gives('drop 0', event_line, ('drop', 0))
        self.gives(f'drop {BIG}', event_line, ('drop', BIG))


class LogLines(Case):

    def lists(self, wanted, log):
        self.gives(wanted, log_lines, log)
        # The list is new.
        log_lines(log).append('')
        self.gives(wanted, log_lines, log)

    def test_new_book(self):
        self.lists(['book 3 2', 'kind front', 'kind front(pay)', 'kind front(pay!)', 'rules front=own:1/2;pay=bad',
                    'ask 1,1,0', 'ask 0,0,1'], Book(KINDS, RULES, ((1, 1, 0), (0, 0, 1))).log())
        self.lists(['book 1 1', 'kind front', 'rules front=never', 'ask 0'], Book((ALONE,), (('front', ('never',)),), ((0,),)).log())

    def test_events(self):
        book = Book(KINDS, RULES, ((1, 1, 0), (0, 0, 1)))
        book.do_all(('seen', PAY, 12), ('mend', PAY, (('top', WRONG),), 3), ('rules', EVERY), ('ask', (2, 2, -7)), ('drop', 0))
        self.lists(['book 3 2', 'kind front', 'kind front(pay)', 'kind front(pay!)', 'rules front=own:1/2;pay=bad', 'ask 1,1,0',
                    'ask 0,0,1', 'seen 12 ?pay!', 'mend 3 ?pay! ^front(pay!)', 'rules front=own:1/1;pay=bad+shared:2/4',
                    'ask 2,2,-7', 'drop 0'], book.log())

    def test_events_that_are_not_possible(self):
        log = (('book', KINDS, RULES, ((0, 0, 1),)), ('drop', 9), ('seen', (), 1), ('ask', (1,)), ('rules', ()), ('mend', TOP, TOP, 8))
        self.lists(['book 3 1', 'kind front', 'kind front(pay)', 'kind front(pay!)', 'rules front=own:1/2;pay=bad', 'ask 0,0,1',
                    'drop 9', 'seen 1 -', 'ask 1', 'rules -', 'mend 8 ^front ^front'], log)
        self.gives(6 + 41, len, log_lines(log[:1] + (('drop', 9),) * 41))

    def test_logs_of_books(self):
        for chance, model in books(72, 30):
            book = Book(*model.start[1:])
            _, kinds, rules, questions = model.start
            wanted = [f'book {len(kinds)} {len(questions)}'] + ['kind ' + written_tree(kind) for kind in kinds]
            wanted += ['rules ' + written_rules(rules)] + [written_event(('ask', question)) for question in questions]
            for _ in range(25):
                event = random_event(chance, model)
                self.gives(written_event(event), event_line, event)
                if model.reason(event) is None:
                    model.events.append(event)
                    book.go(event)
                    wanted.append(written_event(event))
            self.lists(wanted, book.log())
            lines = wanted[-len(book):] if len(book) else ['-']
            self.assertTrue(same(' / '.join(lines), str(book)))
