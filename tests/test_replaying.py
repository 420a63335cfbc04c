"""[71], with [61] to [67]; log_lines of [72] for every log, read back; what follows, [9] (T6)."""

import random

from tests.bookmodel import books, is_by_kind, random_event
from tests.support import ALONE, BIG, KINDS, RULES, Case, same, spoiled, strange_values
from tests.test_books import ASKED, BOTH, EVERY, NEVER, NO_EVENTS, PAY, THIRD, TOP, WHOLE
from thinspans.averages import expected
from thinspans.books import Book
from thinspans.errors import InvalidEvent, InvalidPaper, NotTold, NotUsable, ThinError
from thinspans.eventreadings import read_log
from thinspans.eventtexts import log_lines
from thinspans.replaying import is_log, replayed

START = ('book', KINDS, RULES, ASKED)
EVENTS = (('seen', TOP, 3), ('seen', PAY, 2), ('mend', PAY, BOTH, 1), ('rules', EVERY), ('ask', (0, 0, 5)), ('drop', 0), ('seen', WHOLE, 1))
# First elements of which no book can be made, with the error.
NO_STARTS = [
    (('book', (), RULES, ASKED), InvalidPaper('none', -1)), (('book', None, None, None), InvalidPaper('shape', -1)),
    (('book', KINDS[::-1], RULES, ASKED), InvalidPaper('rise', 1)), (('book', KINDS, RULES[:1], ASKED), InvalidPaper('many', -1)),
    (('book', KINDS, RULES[::-1], ()), InvalidPaper('service', 0)), (('book', KINDS, list(RULES), ASKED), InvalidPaper('shape', -1)),
    (('book', (('a', True, ()),), (('a', ('bad',)),), ((1,),)), InvalidPaper('shape', -1)),
    (('book', (('a', 2, ()),), (('a', ('bad',)),), ((1,),)), InvalidPaper('mark', (0, ()))),
    (('book', KINDS, RULES, ()), NotUsable('questions', -1)), (('book', KINDS, RULES, ASKED + ASKED), NotUsable('questions', -1)),
    (('book', KINDS, RULES, list(ASKED)), NotUsable('questions', -1)), (('book', KINDS, RULES, ((1, 1, True),)), NotUsable('questions', -1)),
    (('book', KINDS, RULES, tuple((0, 0, k) for k in range(7))), NotUsable('questions', -1)),
    (('book', KINDS, RULES, ((1, 1, 0), (0, 1, 0), (1, 0, 0))), NotTold((0, 1, 0)))]


def shown(book):
    return (book.kinds, book.rules, book.questions, book.totals, book.epochs, len(book), book.log(), str(book), book.table())


class IsLog(Case):

    def test_logs(self):
        for log in [(START,), (START,) + EVENTS, (START,) + EVENTS[:3], (START,) + EVENTS[::-1], (('book', (ALONE,), (('front', ('never',)),), ((0,),)),)]:
            self.gives(True, is_log, log)

    def test_events_possible_or_not(self):
        for event in [('seen', (), 1), ('seen', WHOLE, BIG), ('mend', TOP, TOP, 1), ('mend', PAY, TOP, 99), ('rules', ()), ('rules', RULES),
                      ('rules', NEVER), ('ask', (1,)), ('ask', (1, 0, 0)), ('ask', (1, 1, 0)), ('drop', 0), ('drop', BIG)]:
            self.gives(True, is_log, (START, event))
            self.gives(True, is_log, (START,) + (event,) * 50)

    def test_no_logs(self):
        for thing in strange_values() + [START, [START], (), list((START,) + EVENTS), (START[:3],), (START + (0,),), (list(START),), (None,), (0,),
                                         EVENTS, (EVENTS[0], START), (('Book', *START[1:]),), (('books', *START[1:]),), ((0, *START[1:]),),
                                         ((True, *START[1:]),), ((None, *START[1:]),), (START, START), (('book', RULES, KINDS, ASKED),),
                                         ('book', KINDS, RULES, ASKED), (((), *START[1:]),), ('book',), (('book',),), ((),)]:
            self.gives(False, is_log, thing)
            self.gives(False, is_log, (thing,) + EVENTS if thing != START else thing)
        for event in strange_values() + NO_EVENTS:
            self.gives(False, is_log, (START, event))
            self.gives(False, is_log, (START,) + EVENTS + (event,))
            self.gives(False, is_log, (START, event) + EVENTS)

    def test_first_elements(self):
        for start, _ in NO_STARTS:
            self.gives(False, is_log, (start,))
            self.gives(False, is_log, (start,) + EVENTS)

    def test_spoiled(self):
        chance = random.Random(71)
        counts = {True: 0, False: 0}
        for _ in range(1500):
            thing = spoiled(chance, (START,) + EVENTS[:3], ['seen', 'book', ALONE, TOP, (('lost', (ALONE,)),), ('drop', 1), (0, 0, 9), ((0, 0, 9),),
                                                            ('own', 1, 2)])
            good = type(thing) is tuple and all(map(is_by_kind, thing[1:]))
            if good:
                try:
                    start = thing[0]
                    good = type(start) is tuple and len(start) == 4 and start[0] == 'book' and Book(*start[1:]) is not None
                except (ThinError, IndexError):
                    good = False
            counts[good] += 1
            self.gives(good, is_log, thing)
            if good:
                self.assertTrue(same(thing, read_log(log_lines(thing))))
        self.assertGreater(min(counts.values()), 100)


class Replayed(Case):

    def test_beginnings_of_logs(self):
        book = Book(*START[1:])
        for many in range(len(EVENTS) + 1):
            other = replayed((START,) + EVENTS[:many])
            self.assertIs(Book, type(other))
            self.assertEqual(repr(shown(book)), repr(shown(other)))
            self.assertIs(True, book == other)
            self.gives((0, 0), other.tally)
            if many < len(EVENTS):
                book.go(EVENTS[many])
        self.assertIs(True, replayed(log=book.log()) == book)

    def test_logs_of_books(self):
        for chance, model in books(711, 40):
            book = Book(*model.start[1:])
            for _ in range(50):
                event = random_event(chance, model)
                if book.barred(event) is None:
                    book.go(event)
                    model.events.append(event)
            log = book.log()
            self.gives(True, is_log, log)
            other = replayed(log)
            self.assertIs(True, other == book)
            self.assertEqual(repr(shown(book)), repr(shown(other)))
            self.assertTrue(same(log, other.log()))
            self.gives((0, 0), other.tally)
            self.assertTrue(same(log, read_log(log_lines(log))))
            # It goes on as the book does, forth and back.
            for _ in range(10):
                event = random_event(chance, model)
                self.assertEqual(book.barred(event), other.barred(event))
                if book.barred(event) is None:
                    self.assertTrue(same(book.go(event), other.go(event)))
                    model.events.append(event)
            while len(book):
                self.assertTrue(same(book.undo(), other.undo()))
                self.assertEqual(repr(shown(book)), repr(shown(other)))

    def test_new_books(self):
        log = (START,) + EVENTS
        one, two = replayed(log), replayed(log)
        one.undo()
        self.assertIs(False, one == two)
        self.assertTrue(same(log, two.log()))
        self.gives((1, 1), one.tally)
        self.gives((0, 0), two.tally)

    def test_first_error(self):
        for start, error in NO_STARTS:
            self.fails(error, replayed, (start,))
            # Ahead of the errors of events.
            self.fails(error, replayed, (start, ('drop', 9)) + EVENTS)
        for k, events in [(0, (('mend', TOP, PAY, 1),)), (1, (EVENTS[0], ('mend', TOP, PAY, 4))), (2, (EVENTS[0],) * 2 + (('rules', RULES),))]:
            reason = ['few', 'few', 'same'][k]
            self.fails(InvalidEvent(events[k], reason), replayed, (START,) + events)
            self.fails(InvalidEvent(events[k], reason), replayed, (START,) + events + (('drop', 9), None))
        self.fails(InvalidEvent(None, 'shape'), replayed, (START, None))
        self.fails(InvalidEvent(('drop', 1), 'full'), replayed, (START,) + (EVENTS[0],) * 40 + (('drop', 1), ('ask', ())))
        self.assertEqual(40, len(replayed((START,) + (EVENTS[0],) * 40)))

    def test_events_missing_twice_and_exchanged(self):
        chance = random.Random(712)
        failed = 0
        for _ in range(200):
            events = list(EVENTS)
            at, other = chance.randrange(len(events)), chance.randrange(len(events))
            way = chance.randrange(3)
            if way == 0:
                del events[at]
            elif way == 1:
                events.insert(at, events[at])
            else:
                events[at], events[other] = events[other], events[at]
            book = Book(*START[1:])
            wanted = None
            for event in events:
                wanted = book.barred(event)
                if wanted is not None:
                    break
                book.go(event)
            log = (START, *events)
            self.gives(True, is_log, log)
            if wanted is not None:
                failed += 1
                self.fails(InvalidEvent(event, wanted), replayed, log)
            else:
                self.assertIs(True, replayed(log) == book)
            self.assertTrue(same(log, read_log(log_lines(log))))
        self.assertTrue(20 < failed < 180)

    def test_told_totals_are_right_on_the_average(self):
        """(T6): the sights of a crowd, as often as they are seen of it on the average, by one epoch and by another."""
        book = Book(KINDS, RULES, ASKED)
        for rules, crowd in ((RULES, (2, 4, 6)), (THIRD, (9, 0, 3)), (EVERY, (1, 2, 3))):
            if rules != book.rules:
                book.set_rules(rules)
            for sight, often in expected(KINDS, rules, crowd):
                self.assertEqual(1, often[1])
                book.seen(sight, often[0])
        self.assertEqual(((2 + 4 + 9 + 0 + 1 + 2, 1), (6 + 3 + 3, 1)), book.totals)
