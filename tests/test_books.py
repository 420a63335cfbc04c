"""[61] to [70], and of [71] Book.log() and str(book)."""

import random
from fractions import Fraction

from tests import oracle
from tests.bookmodel import books, is_by_kind, random_event, told_questions, weights_by
from tests.support import (
    ALONE, BIG, FINE, KINDS, NO_QUESTIONS, RULES, WRONG, Case, random_rules, same, spoiled, strange_values)
from thinspans.asking import is_told
from thinspans.books import Book
from thinspans.errors import InvalidEvent, InvalidPaper, NothingToUndo, NotTold, NotUsable
from thinspans.kindchecker import lets_kinds, lets_rules
from thinspans.sighting import all_sights
from thinspans.spreading import least_weights

ASKED = ((1, 1, 0), (0, 0, 1))
TOP, BOTH, PAY = (('top', ALONE),), (('top', WRONG),), (('lost', (('pay', 1, ()),)),)
# A sight of the kinds, but not by the rules; and by shape alone.
WHOLE, STRANGE = (('top', FINE),), (('top', ('back', 1, ())),)
THIRD = (('front', ('own', 1, 3)), ('pay', ('bad',)))
EVERY = (('front', ('own', 1, 1)), ('pay', ('own', 1, 1)))
NEVER = (('front', ('never',)), ('pay', ('bad',)))

NO_EVENTS = [
    0, None, (), 'seen', ('seen',), ['seen', TOP, 1], ('seen', TOP), ('seen', TOP, 1, 1), ('seen', TOP, 0), ('seen', TOP, -1),
    ('seen', TOP, True), ('seen', TOP, None), ('seen', TOP, '1'), ('seen', list(TOP), 1), ('seen', TOP[0], 1), ('seen', None, 1),
    ('seen', (('top', ('front', False, ())),), 1), ('seen', TOP + TOP, 1), ('seen', (('lost', ()),), 1), ('seen', (('top', FINE[2]),), 1),
    ('Seen', TOP, 1), ('seen ', TOP, 1), (True, TOP, 1), ('seen', 1, TOP), ('seen', TOP, (1,)),
    ('mend',), ('mend', TOP, PAY), ('mend', TOP, PAY, 0), ('mend', TOP, PAY, True), ('mend', TOP, PAY, 1, 1), ('mend', TOP, None, 1),
    ('mend', None, PAY, 1), ('mend', TOP, (('lost', (('pay', True, ()),)),), 1), ['mend', TOP, PAY, 1], ('mend', TOP, list(PAY), 1),
    ('rules',), ('rules', None), ('rules', list(RULES)), ('rules', RULES, RULES), ('rules', *RULES), ('rules', RULES + (None,)),
    ('rules', (('front', ('own', 1, 0)),)), ('rules', (('Front', ('bad',)),)), ('rules', (('', ('bad',)),)), ('rules', (('front',),)),
    ('rules', (['front', ('bad',)],)), ('rules', (('front', ['bad']),)), ('rules', (('front', ('own', True, 1)),)), ['rules', RULES],
    ('rules', ((0, ('bad',)),)), ('set_rules', THIRD), ('rules', (('front', ('bad',), 0),)),
    ('ask',), ('ask', ()), ('ask', (1, 1, True)), ('ask', [1, 1, 0]), ('ask', 1), ('ask', 1, 1, 0), ('ask', (1, None, 0)),
    ('ask', ((1, 1, 0),)), ('ask', (1, 1, 0), 0), ['ask', (2, 2, 0)], ('ask', None), ('ask', 'abc'), ('ask', (1, '1', 0)),
    ('drop',), ('drop', -1), ('drop', True), ('drop', False), ('drop', None), ('drop', (0,)), ('drop', 0, 0), ('drop', '0'), ['drop', 0],
    ('undo',), ('book', KINDS, RULES, ASKED), (('seen', TOP, 1),), ('keep', 0)]
NO_PLACES = [2, 3, -1, BIG, True, False, None, '0', (), (0,), [0]]


def new_book(questions=ASKED):
    return Book(KINDS, RULES, questions)


class BookCase(Case):

    def state(self, book):
        """All that a book shows, but for the counts of operations."""
        return (book.kinds, book.rules, book.questions, book.totals, book.epochs, len(book), book.log(), str(book), book.table(),
                [book.weights_of(k) for k in range(len(book.questions))], [book[k] for k in range(len(book.questions))])

    def refuses(self, book, event, reason):
        """That the event is not possible, whichever way it comes, and that nothing changes but the counts."""
        before, many = repr(self.state(book)), book.tally()[0]
        wanted = InvalidEvent(event, reason)
        self.gives(reason, book.barred, event)
        self.fails_so(wanted, lambda: book.tried(event))
        self.gives((many, many), book.tally)
        ways = [lambda: book.go(event), lambda: book.go(event=event), lambda: book(event), lambda: book(event=event),
                lambda: book.do_all(event), lambda: book.do_all(event, keep=True)] + self.own_ways(book, event)
        for way in ways:
            self.fails_so(wanted, way)
        self.gives((many + len(ways),) * 2, book.tally)
        self.assertEqual(before, repr(self.state(book)))

    def own_ways(self, book, event):
        """The event by its own method, with the arguments by position and by name."""
        if type(event) is not tuple or not event or type(event[0]) is not str:
            return []
        found = {'seen': (book.seen, ('sight', 'n')), 'mend': (book.mend, ('sight', 'other', 'n')),
                 'rules': (book.set_rules, ('rules',)), 'ask': (book.ask, ('question',)), 'drop': (book.drop, ('k',))}.get(event[0])
        if found is None or len(found[1]) != len(event) - 1:
            return []
        return [lambda: found[0](*event[1:]), lambda: found[0](**dict(zip(found[1], event[1:])))]

    def applies(self, book, event, totals):
        """That the event returns these totals, whichever way it comes."""
        self.gives(None, book.barred, event)
        self.assertTrue(same(totals, book.tried(event)))
        ways = [lambda: book.go(event), lambda: book(event)] + self.own_ways(book, event)
        before, many = repr(self.state(book)), book.tally()[0]
        for k, way in enumerate(ways):
            self.assertTrue(same(totals, way()))
            self.assertTrue(same(totals, book.totals))
            self.gives((many + 2 * k + 1,) * 2, book.tally)
            self.assertTrue(same(event, book.log()[-1]))
            if k < len(ways) - 1:
                self.assertTrue(same(event, book.undo()))
                self.assertEqual(before, repr(self.state(book)))


class Example(BookCase):

    def test_events(self):
        book = new_book()
        self.assertTrue(same([((6, 1), (0, 1)), ((6, 1), (2, 1)), ((6, 1), (2, 1))],
                             [book.seen(TOP, 3), book.seen(PAY, 2), book.mend(PAY, BOTH, 1)]))
        self.fails_so(InvalidEvent(('ask', (1, 0, 0)), 'told'), lambda: book.ask((1, 0, 0)))
        self.assertTrue(same([((6, 1), (2, 1)), ((9, 1), (2, 1)), 2],
                             [book.set_rules(THIRD), book.seen(TOP, 1), len(book.epochs)]))
        self.gives([' 0 1,1,0 9', ' 1 0,0,1 2'], book.table)


class NewBook(BookCase):

    def test_what_it_shows(self):
        book = Book(kinds=KINDS, rules=RULES, questions=ASKED)
        self.assertTrue(same((KINDS, RULES, ASKED, ((0, 1), (0, 1)), ((RULES, ()),)),
                             (book.kinds, book.rules, book.questions, book.totals, book.epochs)))
        self.gives(0, len, book)
        self.gives((0, 0), book.tally)
        self.gives((('book', KINDS, RULES, ASKED),), book.log)
        self.gives('-', str, book)
        self.assertEqual((40, 6, 6), (Book.MOST, Book.EPOCHS, Book.QUESTIONS))
        self.assertEqual((40, 6, 6), (book.MOST, book.EPOCHS, book.QUESTIONS))

    def test_one_to_six_questions(self):
        for many in range(1, 7):
            questions = tuple((k, k, 7) for k in range(many))
            self.assertEqual(questions, new_book(questions).questions)
        self.fails(NotUsable('questions', -1), Book, KINDS, RULES, tuple((k, k, 7) for k in range(7)))

    def test_kinds_and_rules(self):
        for kinds in strange_values() + [(), ALONE, KINDS[::-1], KINDS + KINDS, (('Front', 0, ()),), (('a', 2, ()),)]:
            error = self.outcome(lambda: lets_kinds(kinds))
            self.assertIs(InvalidPaper, type(error))
            self.fails(error, Book, kinds, RULES, ASKED)
            # Ahead of the rules and questions.
            self.fails(error, Book, kinds, None, None)
        for rules in strange_values() + [(), RULES[:1], RULES[::-1], list(RULES), (RULES[0], ('pay', ('bad', 1)))]:
            error = self.outcome(lambda: lets_rules(KINDS, rules))
            self.assertIs(InvalidPaper, type(error))
            self.fails(error, Book, KINDS, rules, ASKED)
            self.fails(error, Book, KINDS, rules, ())

    def test_questions(self):
        for questions in strange_values() + [
                0, (), list(ASKED), ASKED[0], ASKED + ASKED[:1], ((1, 1, 0), (1, 1, 0)), ((1, 1, 0), (1, 1)), ((1, 1, 0), [0, 0, 1]),
                ((1, 1, False),), ((1, 1, 0), None), ((),), (((1, 1, 0),),), ((1, 1, 0, 0),),
                # Ahead of those that are not told.
                ((1, 0, 0), (1, 0, 0)), ((1, 0, 0), (1,))] + [ASKED + (one,) for one in NO_QUESTIONS]:
            self.fails(NotUsable('questions', -1), Book, KINDS, RULES, questions)

    def test_not_told(self):
        self.fails(NotTold((1, 0, 0)), Book, KINDS, RULES, ((1, 0, 0),))
        self.fails(NotTold((0, 1, 5)), Book, KINDS, RULES, ((1, 1, 0), (0, 1, 5), (1, 0, 0)))
        self.fails(NotTold((1, 1, 1)), Book, KINDS, NEVER, ((0, 0, 9), (1, 1, 1)))
        self.assertEqual(((0, 0, 0),), new_book(((0, 0, 0),)).questions)


class Reasons(BookCase):

    def test_shape(self):
        book = new_book()
        book.seen(TOP, 5)
        for event in strange_values() + NO_EVENTS:
            self.assertFalse(is_by_kind(event))
            self.refuses(book, event, 'shape')

    def test_spoiled_events(self):
        chance = random.Random(63)
        book = new_book()
        counts = {True: 0, False: 0}
        for _ in range(1500):
            event = chance.choice([('seen', TOP, 2), ('mend', TOP, PAY, 2), ('rules', THIRD), ('ask', (2, 2, 0)), ('drop', 1)])
            thing = spoiled(chance, event, ['seen', 'front', ALONE, 'top', 'own', 'bad', TOP, RULES, (0, 0, 9)])
            counts[is_by_kind(thing)] += 1
            self.assertEqual(is_by_kind(thing), book.barred(thing) != 'shape', repr(thing))
        self.assertGreater(min(counts.values()), 100)

    def test_sight(self):
        book = new_book()
        book.seen(TOP, 5)
        for sight in ((), WHOLE, STRANGE, (('lost', (('pay', 0, ()),)),), (('lost', (ALONE,)),), PAY + TOP):
            self.refuses(book, ('seen', sight, 1), 'sight')
            self.refuses(book, ('mend', sight, TOP, 1), 'sight')
            self.refuses(book, ('mend', TOP, sight, 1), 'sight')
            # Ahead of "same" and "few".
            self.refuses(book, ('mend', sight, sight, 99), 'sight')
            self.refuses(book, ('mend', PAY, sight, 99), 'sight')
        # By other rules they are sights, and the first ones are not.
        book.set_rules(EVERY)
        self.refuses(book, ('seen', PAY, 1), 'sight')
        self.refuses(book, ('mend', TOP, PAY, 1), 'sight')
        book.seen(WHOLE, 1)

    def test_same_and_few(self):
        book = new_book()
        self.refuses(book, ('mend', TOP, TOP, 1), 'same')
        self.refuses(book, ('mend', TOP, PAY, 1), 'few')
        book.seen(TOP, 5)
        self.refuses(book, ('mend', TOP, TOP, 5), 'same')
        self.refuses(book, ('mend', TOP, TOP, 6), 'same')
        self.refuses(book, ('mend', TOP, PAY, 6), 'few')
        self.refuses(book, ('mend', TOP, PAY, BIG), 'few')
        self.refuses(book, ('mend', PAY, TOP, 1), 'few')
        self.applies(book, ('mend', TOP, PAY, 5), ((0, 1), (5, 1)))
        self.refuses(book, ('mend', TOP, PAY, 1), 'few')
        # What was seen in another epoch does not count.
        book.set_rules(THIRD)
        self.refuses(book, ('mend', PAY, TOP, 1), 'few')
        book.seen(PAY, 2)
        self.refuses(book, ('mend', PAY, TOP, 3), 'few')
        self.applies(book, ('mend', PAY, TOP, 2), ((6, 1), (5, 1)))

    def test_rules(self):
        book = new_book()
        for rules in [(), RULES[:1], RULES[1:], RULES[::-1], RULES + RULES, RULES + (('z', ('bad',)),),
                      (RULES[0], ('paid', ('bad',))), (RULES[1], RULES[1])]:
            self.refuses(book, ('rules', rules), 'rules')
        self.refuses(book, ('rules', RULES), 'same')
        self.refuses(book, ('rules', NEVER), 'told')
        # Only those of the present epoch are the same; those that do the same are others.
        book.set_rules(THIRD)
        self.refuses(book, ('rules', THIRD), 'same')
        book.set_rules(RULES)
        book.set_rules((('front', ('own', 2, 4)), ('pay', ('bad',))))
        book.drop(0)
        book.set_rules(NEVER)
        self.refuses(book, ('rules', (('front', ('never',)), ('pay', ('never',)))), 'told')

    def test_sixth_and_seventh_epoch(self):
        book = new_book()
        for q in range(2, 7):
            self.assertEqual(q - 1, len(book.epochs))
            self.applies(book, ('rules', (('front', ('own', 2, q)), ('pay', ('bad',)))), ((0, 1), (0, 1)))
        self.assertEqual(6, len(book.epochs))
        self.refuses(book, ('rules', THIRD), 'many')
        # Ahead of "told", behind "rules" and "same".
        self.refuses(book, ('rules', NEVER), 'many')
        self.refuses(book, ('rules', book.rules), 'same')
        self.refuses(book, ('rules', NEVER[::-1]), 'rules')
        book.undo()
        self.applies(book, ('rules', THIRD), ((0, 1), (0, 1)))

    def test_ask(self):
        book = new_book()
        for question in [(1,), (1, 1), (1, 1, 0, 0), (0,) * 9]:
            self.refuses(book, ('ask', question), 'question')
        self.refuses(book, ('ask', (1, 1, 0)), 'there')
        self.refuses(book, ('ask', (0, 0, 1)), 'there')
        for question in [(1, 0, 0), (0, 1, 0), (BIG, 0, 0), (2, 1, 3)]:
            self.refuses(book, ('ask', question), 'told')
        self.applies(book, ('ask', (0, 0, -BIG)), ((0, 1), (0, 1), (0, 1)))
        self.applies(book, ('ask', (0, 0, 0)), ((0, 1),) * 4)
        self.refuses(book, ('ask', (0, 0, 0)), 'there')

    def test_ask_of_every_epoch(self):
        book = Book(KINDS, EVERY, ((0, 0, 1),))
        book.seen(WHOLE, 3)
        self.applies(book, ('ask', (0, 1, 0)), ((0, 1), (3, 1)))
        self.refuses(book, ('rules', RULES), 'told')
        book.drop(1)
        book.set_rules(RULES)
        self.refuses(book, ('ask', (0, 1, 0)), 'told')
        # It is not enough that the present rules tell it.
        book.set_rules(EVERY)
        self.refuses(book, ('ask', (0, 1, 0)), 'told')
        book.set_rules(NEVER)
        self.refuses(book, ('ask', (1, 1, 0)), 'told')

    def test_sixth_and_seventh_question(self):
        book = new_book()
        for k in range(4):
            self.applies(book, ('ask', (3, 3, k)), ((0, 1),) * (3 + k))
        self.refuses(book, ('ask', (4, 4, 4)), 'many')
        # Ahead of "told", behind "question" and "there".
        self.refuses(book, ('ask', (1, 0, 0)), 'many')
        self.refuses(book, ('ask', (3, 3, 2)), 'there')
        self.refuses(book, ('ask', (1, 0)), 'question')
        book.drop(5)
        self.applies(book, ('ask', (4, 4, 4)), ((0, 1),) * 6)

    def test_drop(self):
        book = new_book(((1, 1, 0), (0, 0, 1), (1, 1, 1)))
        book.seen(TOP, 1)
        for k in (3, 4, BIG):
            self.refuses(book, ('drop', k), 'question')
        self.applies(book, ('drop', 1), ((2, 1), (2, 1)))
        self.assertEqual(((1, 1, 0), (1, 1, 1)), book.questions)
        self.refuses(book, ('drop', 2), 'question')
        self.applies(book, ('drop', 0), ((2, 1),))
        self.refuses(book, ('drop', 1), 'question')
        self.refuses(book, ('drop', 0), 'last')
        # A dropped question may be asked again, behind the others, also where it was not asked meanwhile.
        book.seen(PAY, 3)
        self.applies(book, ('ask', (0, 0, 1)), ((5, 1), (3, 1)))

    def test_full(self):
        book = new_book()
        for k in range(39):
            book.seen(TOP, 1)
        self.applies(book, ('drop', 1), ((78, 1),))
        self.assertEqual(40, len(book))
        for event in [('seen', TOP, 1), ('seen', (), 1), ('mend', TOP, TOP, 1), ('mend', TOP, PAY, 99), ('rules', THIRD), ('rules', RULES),
                      ('rules', ()), ('ask', (1, 1, 0)), ('ask', (1,)), ('ask', (0, 0, 1)), ('drop', 0), ('drop', 7)]:
            self.refuses(book, event, 'full')
        for event in [None, ('seen', TOP, 0), ('drop', True), ('ask', ()), ('rules', (('', ('bad',)),))]:
            self.refuses(book, event, 'shape')
        book.undo()
        self.assertEqual(39, len(book))
        book.drop(0)
        self.refuses(book, ('drop', 0), 'full')

    def test_full_counts_those_before(self):
        book = new_book()
        book.do_all(*[('seen', TOP, 1)] * 38)
        many = ('seen', PAY, 1)
        self.assertEqual(((76, 1), (2, 1)), book.tried(many, many))
        self.fails_so(InvalidEvent(many, 'full'), lambda: book.tried(many, many, many))
        self.fails_so(InvalidEvent(('drop', 0), 'full'), lambda: book.tried(many, many, ('drop', 0), None))
        self.fails_so(InvalidEvent(None, 'shape'), lambda: book.tried(many, many, None))
        self.fails_so(InvalidEvent(many, 'full'), lambda: book.do_all(many, many, many))
        self.assertEqual(38, len(book))
        self.fails_so(InvalidEvent(many, 'full'), lambda: book.do_all(many, many, many, keep=True))
        self.assertEqual((40, ((76, 1), (2, 1))), (len(book), book.totals))


class Totals(BookCase):

    def test_fractions_and_below_0(self):
        book = Book((ALONE,), (('front', ('own', 2, 3)),), ((1,), (-3,)))
        self.assertTrue(same(((3, 2), (-9, 2)), book.seen(TOP, 1)))
        self.assertTrue(same(((3, 1), (-9, 1)), book.seen(TOP, 1)))
        self.gives([' 0 1 3', ' 1 -3 -9'], book.table)
        self.assertTrue(same(((39, 2), (-117, 2)), book.seen(TOP, 11)))
        self.gives([' 0 1 39/2', ' 1 -3 -117/2'], book.table)
        self.assertTrue(same(((1519, 1), (-4557, 1)), Book((ALONE,), (('front', ('own', 2, 3)),), ((1,), (-3,))).tried(
            ('seen', TOP, 1000), ('rules', (('front', ('own', 1, 1)),)), ('seen', TOP, 19))))

    def test_least_spread(self):
        # LOST and FULL tell WRONG best with equal weights; the sights of one trace of each kind decide.
        kinds, rules = (ALONE, FINE), (('front', ('own', 1, 1)), ('pay', ('own', 1, 2)))
        book = Book(kinds, rules, ((1, 0), (1, 1)))
        self.assertTrue(same(((1, 1), (1, 1)), book.seen(TOP, 1)))
        self.assertTrue(same(((0, 1), (2, 1)), book.seen((('top', FINE),), 1)))
        for k, question in enumerate(book.questions):
            self.gives(least_weights(kinds, rules, question, (1, 1))[0], book.weights_of, k)

    def test_as_the_model(self):
        possible = set()
        for chance, model in books(61, 50):
            book = Book(*model.start[1:])
            for _ in range(40):
                event = random_event(chance, model)
                reason = model.reason(event)
                possible.add((event[0], reason))
                if reason is None:
                    model.events.append(event)
                    self.applies(book, event, model.totals())
                else:
                    self.refuses(book, event, reason)
                self.assertTrue(same(model.epochs(), book.epochs))
                self.assertTrue(same(tuple(model.state()[0]), book.questions))
                self.assertTrue(same(model.state()[1][-1][0], book.rules))
                self.assertTrue(same(tuple([model.start] + model.events), book.log()))
                self.gives(len(model.events), len, book)
        wanted = {(word, None) for word in ('seen', 'mend', 'rules', 'ask', 'drop')} | {
            ('seen', 'sight'), ('mend', 'sight'), ('mend', 'same'), ('mend', 'few'), ('rules', 'rules'), ('rules', 'same'),
            ('rules', 'told'), ('ask', 'question'), ('ask', 'there'), ('ask', 'many'), ('ask', 'told'), ('drop', 'question'),
            ('drop', 'last')}
        self.assertEqual(set(), wanted - possible)

    def test_consequences(self):
        """[70]."""
        for chance, model in books(70, 40):
            kinds, rules = model.start[1:3]
            sights = all_sights(kinds, rules)
            if not sights:
                continue
            seen = [('seen', chance.choice(sights), chance.randint(1, 9)) for _ in range(6)]
            book = Book(*model.start[1:])
            book.do_all(*seen)
            other = Book(*model.start[1:])
            other.do_all(*seen[::-1])
            single = Book(*model.start[1:])
            single.do_all(*[(word, sight, 1) for word, sight, n in seen for _ in range(n)][:40])
            once = Book(*model.start[1:])
            if sum(n for _, _, n in seen) <= 40:
                self.assertEqual(book.totals, single.totals)
            self.assertEqual((book.totals, book.epochs), (other.totals, other.epochs))
            # A mend is as if the traces had been seen so from the beginning.
            right = chance.choice(sights)
            once.do_all(*[(word, right if sight == seen[0][1] else sight, n) for word, sight, n in seen])
            if right != seen[0][1]:
                book.mend(seen[0][1], right, sum(n for _, sight, n in seen if sight == seen[0][1]))
            self.assertEqual((once.totals, once.epochs), (book.totals, book.epochs))
            questions = told_questions(chance, kinds, rules, 4)
            for one in questions:
                for two in questions[:2]:
                    both = tuple(a + b for a, b in zip(one, two))
                    self.assertEqual(Fraction(*book.total_now(both)), Fraction(*book.total_now(one)) + Fraction(*book.total_now(two)))
                thrice = tuple(-3 * a for a in one)
                self.assertEqual(Fraction(*book.total_now(thrice)), -3 * Fraction(*book.total_now(one)))

    def test_told_in_each_epoch(self):
        """[70]: each question is told by the rules of each epoch; counts change nothing of what is possible."""
        for chance, model in books(701, 40):
            book = Book(*model.start[1:])
            bare = Book(*model.start[1:])
            for _ in range(25):
                event = random_event(chance, model)
                if model.reason(event) is None:
                    model.events.append(event)
                    book.go(event)
                    if event[0] not in ('seen', 'mend'):
                        bare.go(event)
                elif event[0] not in ('seen', 'mend'):
                    self.assertEqual(book.barred(event), bare.barred(event))
                for question in book.questions:
                    for rules, _ in book.epochs:
                        self.assertTrue(is_told(book.kinds, rules, question))


class AsAContainer(BookCase):

    def test_places(self):
        book = new_book()
        book.seen(TOP, 3)
        book.seen(PAY, 5)
        self.assertTrue(same([(6, 1), (5, 1)], [book[0], book[1]]))
        for k in NO_PLACES + strange_values() + [BIG, slice(0, 1), ASKED[0]]:
            if k == 0 and type(k) is int or k == 1 and type(k) is int:
                continue
            self.fails_so(NotUsable('question', k), lambda: book[k])
            self.fails_so(NotUsable('question', k), lambda: book.weights_of(k))
            self.fails_so(NotUsable('question', k), lambda: book.weights_of(k=k))
        book.drop(0)
        self.assertEqual((5, 1), book[0])
        self.fails_so(NotUsable('question', 1), lambda: book[1])

    def test_in(self):
        book = new_book()
        for sight in (TOP, PAY, BOTH):
            self.assertIs(True, sight in book)
        for thing in strange_values() + [(), WHOLE, STRANGE, list(TOP), TOP[0], ALONE, ASKED[0], 0, 'top', book,
                                         (('top', ('front', False, ())),), (('lost', (('pay', True, ()),)),)]:
            self.assertIs(False, thing in book)
        book.set_rules(EVERY)
        self.assertEqual([True, False, True, True, False], [sight in book for sight in (TOP, PAY, BOTH, WHOLE, ())])

    def test_length_counts_events(self):
        book = new_book()
        for k in range(1, 5):
            book.seen(TOP, 9)
            self.gives(k, len, book)
        book.undo()
        self.gives(3, len, book)

    def test_not_iterated(self):
        self.assertRaises(TypeError, lambda: list(new_book()))

    def test_equal(self):
        book, other = new_book(), new_book()
        self.assertIs(True, book == other)
        self.assertIs(False, book != other)
        for event in [('seen', TOP, 3), ('rules', THIRD), ('ask', (2, 2, 0)), ('seen', PAY, 1), ('mend', PAY, BOTH, 1), ('drop', 0)]:
            book.go(event)
            self.assertIs(False, book == other)
            self.assertIs(True, book != other)
            other.go(event)
            self.assertIs(True, book == other)
        # The counts of operations do not matter, nor does what was undone.
        other.undo()
        other.go(('drop', 0))
        self.assertNotEqual(book.tally(), other.tally())
        self.assertIs(True, book == other)

    def test_equal_in_each_part_of_the_log(self):
        book = new_book()
        for other in [Book(KINDS, THIRD, ASKED), Book(KINDS, RULES, ASKED[::-1]), Book(KINDS, RULES, ASKED[:1]),
                      Book(KINDS, (('front', ('own', 2, 4)), ('pay', ('bad',))), ASKED),
                      Book(KINDS[:2] + (('front', 1, ()),), RULES, ASKED)]:
            self.assertIs(False, book == other)
        one, two, three = new_book(), new_book(), new_book()
        one.do_all(('seen', TOP, 1), ('seen', TOP, 2))
        two.do_all(('seen', TOP, 2), ('seen', TOP, 1))
        three.do_all(('seen', TOP, 3))
        self.assertEqual((one.totals, one.epochs), (two.totals, two.epochs))
        self.assertEqual([False, False, False], [one == two, one == three, two == three])
        # What was asked from the beginning, and what was asked later.
        late = new_book(ASKED[:1])
        late.ask(ASKED[1])
        self.assertIs(False, late == book)

    def test_other_values(self):
        book = new_book()
        for thing in strange_values() + [0, 1, (), book.log(), KINDS, '-', object(), Case]:
            self.assertIs(False, book == thing)
            self.assertIs(True, book != thing)

        class Anything:
            def __eq__(self, other):
                return True

        self.assertIs(False, book == Anything())


class Operations(BookCase):

    def test_tried(self):
        book = new_book()
        book.seen(TOP, 1)
        before = repr(self.state(book))
        self.assertTrue(same(((2, 1), (0, 1)), book.tried()))
        self.assertTrue(same(((8, 1), (2, 1), (10, 1)), book.tried(
            ('seen', TOP, 3), ('seen', PAY, 2), ('rules', THIRD), ('ask', (1, 1, 1)))))
        self.fails_so(InvalidEvent(('mend', TOP, PAY, 2), 'few'), lambda: book.tried(('seen', PAY, 1), ('mend', TOP, PAY, 2), None))
        self.assertEqual(((0, 1), (1, 1)), book.tried(('mend', TOP, PAY, 1)))
        self.fails_so(InvalidEvent(('drop', 1), 'question'), lambda: book.tried(('drop', 0), ('drop', 1)))
        self.assertEqual(before, repr(self.state(book)))
        self.gives((1, 1), book.tally)

    def test_undo(self):
        book = new_book()
        self.fails(NothingToUndo(0), book.undo)
        self.gives((2, 2), book.tally)
        events = [('seen', TOP, 3), ('rules', EVERY), ('ask', (0, 0, -2)), ('seen', BOTH, 1), ('mend', BOTH, TOP, 1), ('drop', 1)]
        states = [repr(self.state(book))]
        for event in events:
            book.go(event)
            states.append(repr(self.state(book)))
        for event in events[::-1]:
            self.assertEqual(states.pop(), repr(self.state(book)))
            self.assertTrue(same(event, book.undo()))
        self.assertEqual(states, [repr(self.state(book))])
        self.fails_so(NothingToUndo(0), book.undo)
        self.gives((15, 15), book.tally)
        # The same events once more.
        self.gives(6, book.do_all, *events)
        for event in events[::-1]:
            self.assertTrue(same(event, book.undo()))

    def test_do_all(self):
        events = [('seen', TOP, 3), ('rules', THIRD), ('ask', (2, 2, 5)), ('seen', PAY, 1)]
        book = new_book()
        self.assertTrue(same(0, book.do_all()))
        self.assertTrue(same(4, book.do_all(*events)))
        self.gives((2, 2), book.tally)
        self.assertEqual((book.log()[1:], book.totals), (tuple(events), ((6, 1), (1, 1), (17, 1))))
        for keep in (True, False):
            self.assertTrue(same(1, book.do_all(('seen', TOP, 1), keep=keep)))
        self.assertEqual(6, len(book))

    def test_do_all_that_fails(self):
        first = ('seen', BOTH, 2)
        for wrong, reason in [(None, 'shape'), (('seen', WHOLE, 1), 'sight'), (('mend', BOTH, PAY, 3), 'few'), (('rules', NEVER), 'told')]:
            for events in [(wrong, first), (first, wrong, first), (first, ('rules', EVERY), ('rules', RULES), first, first, wrong, None)]:
                if wrong is not None and wrong[0] == 'mend' and len(events) != 3:
                    continue
                many = events.index(wrong)
                for keep in (False, True):
                    book, wanted = new_book(), new_book()
                    for one in (book, wanted):
                        one.go(('seen', TOP, 1))
                        one.go(('ask', (0, 0, 7)))
                    self.fails_so(InvalidEvent(wrong, reason), lambda: book.do_all(*events, keep=keep))
                    self.gives((3, 3), book.tally)
                    for event in events[:many] if keep else ():
                        wanted.go(event)
                    self.assertEqual(repr(self.state(wanted)), repr(self.state(book)))
                    self.assertIs(True, wanted == book)
                    self.assertTrue(same(wanted.seen(TOP, 5), book.seen(TOP, 5)))
        book = new_book()
        self.fails_so(InvalidEvent(0, 'shape'), lambda: book.do_all(first, 0))
        self.assertEqual(0, len(book))
        self.fails_so(NothingToUndo(0), book.undo)

    def test_tally(self):
        book = new_book()
        actions = [lambda: book.seen(TOP, 1), lambda: book.seen(TOP, 0), lambda: book.mend(TOP, PAY, 1), lambda: book.mend(TOP, TOP, 1),
                   lambda: book.set_rules(THIRD), lambda: book.set_rules(THIRD), lambda: book.ask((2, 2, 2)), lambda: book.ask(0),
                   lambda: book.drop(0), lambda: book.drop(9), lambda: book.go(('seen', TOP, 1)), lambda: book.go(None),
                   lambda: book(('seen', TOP, 1)), lambda: book(None), book.undo, lambda: book.do_all(), lambda: book.do_all(None),
                   lambda: book.do_all(('seen', TOP, 1), ('seen', TOP, 1)), lambda: book.do_all(('seen', TOP, 1), 0, keep=True)]
        for k, action in enumerate(actions):
            self.assertTrue(same((k, k), book.tally()))
            self.outcome(action)
        self.assertTrue(same((len(actions), len(actions)), book.tally()))

    def test_what_is_not_counted(self):
        book = new_book()
        book.seen(TOP, 3)
        for action in [lambda: book.tried(('seen', TOP, 1)), lambda: book.tried(None), lambda: book.barred(('seen', TOP, 1)),
                       lambda: book.barred(None), lambda: book.weights_of(0), lambda: book.weights_of(9), lambda: book.total_now((2, 2, 2)),
                       lambda: book.total_now(None), lambda: book.lost_under(NEVER), lambda: book.lost_under(None), lambda: len(book),
                       lambda: TOP in book, book.table, lambda: book[0], lambda: book[9], lambda: book == new_book(), lambda: str(book),
                       book.log, book.tally, lambda: (book.kinds, book.rules, book.questions, book.totals, book.epochs)]:
            before = repr(self.state(book))
            self.outcome(action)
            self.assertEqual(((1, 1), before), (book.tally(), repr(self.state(book))))

    def test_two_books_do_not_share(self):
        one, two = new_book(), new_book()
        one.do_all(('seen', TOP, 3), ('rules', THIRD), ('ask', (0, 0, 5)))
        self.assertEqual(repr(self.state(new_book())), repr(self.state(two)))
        self.gives((0, 0), two.tally)


class Table(BookCase):

    def test_columns(self):
        book = new_book(((1, 1, 0), (0, 0, -1), (-2, -2, 7), (0, 0, 0)))
        self.gives([' 0 1,1,0 0', ' 1 0,0,-1 0', ' 2 -2,-2,7 0', ' 3 0,0,0 0'], book.table)
        book.do_all(('rules', (('front', ('own', 2, 3)), ('pay', ('bad',)))), ('seen', TOP, 3), ('seen', BOTH, 2))
        self.gives([' 0 1,1,0 9/2', ' 1 0,0,-1 -2', ' 2 -2,-2,7 5', ' 3 0,0,0 0'], book.table)
        rows = book.table()
        rows.append('')
        self.assertEqual(4, len(book.table()))

    def test_digits(self):
        book = Book((ALONE,), (('front', ('own', 2, BIG)),), ((-BIG,),))
        book.seen(TOP, BIG)
        self.gives([f' 0 {-BIG} {-BIG ** 3}/2'], book.table)


class Advice(BookCase):

    def test_barred(self):
        book = new_book()
        book.seen(TOP, 3)
        for event, reason in [(None, 'shape'), (('seen', TOP, 1), None), (('seen', WHOLE, 1), 'sight'), (('mend', TOP, TOP, 1), 'same'),
                              (('mend', TOP, PAY, 4), 'few'), (('mend', TOP, PAY, 3), None), (('rules', ()), 'rules'),
                              (('rules', RULES), 'same'), (('rules', NEVER), 'told'), (('rules', THIRD), None), (('ask', (1,)), 'question'),
                              (('ask', (1, 1, 0)), 'there'), (('ask', (1, 0, 0)), 'told'), (('ask', (1, 1, 1)), None),
                              (('drop', 2), 'question'), (('drop', 1), None)]:
            self.gives(reason, book.barred, event)
        book.drop(1)
        self.gives('last', book.barred, ('drop', 0))
        self.gives((2, 2), book.tally)

    def test_weights_of(self):
        book = new_book()
        self.gives(((TOP, (2, 1)),), book.weights_of, 0)
        self.gives(((PAY, (1, 1)), (BOTH, (1, 1))), book.weights_of, 1)
        book.ask((0, 0, 0))
        self.gives((), book.weights_of, 2)
        book.set_rules(THIRD)
        self.gives(((TOP, (3, 1)),), book.weights_of, 0)
        for chance, model in books(69, 30):
            book = Book(*model.start[1:])
            for k, question in enumerate(book.questions):
                wanted = weights_by(*model.start[1:3], question)
                self.gives(oracle.pairs({sight: part for sight, part in wanted.items() if part}), book.weights_of, k)

    def test_total_now(self):
        book = new_book()
        book.do_all(('seen', TOP, 3), ('seen', PAY, 2), ('rules', THIRD), ('seen', TOP, 1))
        before = repr(self.state(book))
        self.gives((9, 1), book.total_now, (1, 1, 0))
        self.gives((2, 1), book.total_now, (0, 0, 1))
        self.gives((22, 1), book.total_now, (2, 2, 2))
        self.gives((0, 1), book.total_now, (0, 0, 0))
        self.gives((-2 * BIG, 1), book.total_now, (0, 0, -BIG))
        self.gives(None, book.total_now, (1, 0, 0))
        # Whether there is room for it or not.
        for k in range(4):
            book.ask((0, 0, 2 + k))
        self.gives('many', book.barred, ('ask', (0, 0, 9)))
        self.gives((18, 1), book.total_now, (0, 0, 9))
        for _ in range(4):
            book.undo()
        self.assertEqual(before, repr(self.state(book)))
        for thing in strange_values() + NO_QUESTIONS:
            self.fails(NotUsable('question', -1), book.total_now, thing)

    def test_total_now_of_every_epoch(self):
        book = Book(KINDS, EVERY, ((0, 0, 1),))
        book.seen(WHOLE, 3)
        self.gives((3, 1), book.total_now, (0, 1, 0))
        book.set_rules(RULES)
        self.gives(None, book.total_now, (0, 1, 0))
        book.set_rules(EVERY)
        self.gives(None, book.total_now, (0, 1, 0))
        self.gives((3, 1), book.total_now, (1, 1, 0))
        for chance, model in books(691, 25):
            book = Book(*model.start[1:])
            for _ in range(20):
                event = random_event(chance, model)
                if model.reason(event) is None:
                    book.go(event)
                    model.events.append(event)
            for question in book.questions + told_questions(chance, book.kinds, book.rules, 2):
                wanted = model.total(question)
                self.gives(None if wanted is None else oracle.pair(wanted), book.total_now, question)

    def test_lost_under(self):
        book = new_book(((1, 1, 0), (0, 0, 1), (1, 1, 5), (0, 0, 0)))
        self.gives((), book.lost_under, RULES)
        self.gives((), book.lost_under, THIRD)
        self.gives((0, 2), book.lost_under, NEVER)
        self.gives((0, 1, 2), book.lost_under, (('front', ('never',)), ('pay', ('never',))))
        book.drop(0)
        self.gives((1,), book.lost_under, NEVER)
        for rules in strange_values() + [(), RULES[:1], RULES[::-1], list(RULES), (RULES[0], ('pay', ('bad', 1))), RULES * 2]:
            self.fails(self.outcome(lambda: lets_rules(KINDS, rules)), book.lost_under, rules)
        for chance, model in books(692, 30):
            book = Book(*model.start[1:])
            for _ in range(4):
                rules = random_rules(chance, book.kinds)
                wanted = tuple(k for k, question in enumerate(book.questions) if not oracle.told(book.kinds, rules, question))
                self.gives(wanted, book.lost_under, rules)
                if wanted and rules != book.rules:
                    self.gives('told', book.barred, ('rules', rules))


class Log(BookCase):

    def test_log(self):
        book = new_book()
        start = ('book', KINDS, RULES, ASKED)
        events = (('seen', TOP, 3), ('rules', THIRD), ('ask', (2, 2, 0)), ('drop', 0), ('seen', PAY, 2), ('mend', PAY, BOTH, 1))
        for k, event in enumerate(events):
            self.gives((start,) + events[:k], book.log)
            book.go(event)
        self.gives((start,) + events, book.log)
        self.outcome(lambda: book.go(None))
        book.undo()
        self.gives((start,) + events[:-1], book.log)

    def test_str(self):
        book = new_book()
        self.gives('-', str, book)
        book.seen(TOP, 3)
        self.gives('seen 3 ^front', str, book)
        book.do_all(('seen', PAY, 2), ('mend', PAY, BOTH, 1), ('rules', THIRD), ('ask', (2, 2, -7)), ('drop', 0))
        self.gives('seen 3 ^front / seen 2 ?pay! / mend 1 ?pay! ^front(pay!) / rules front=own:1/3;pay=bad / ask 2,2,-7 / drop 0',
                   str, book)
