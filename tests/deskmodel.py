"""A desk once more, by the words of [76]: with the other readers, and a book."""

from tests import textmodel
from thinspans.books import Book
from thinspans.errors import InvalidRow
from thinspans.thintexts import rules_text, sight_text, tree_text


def number_text(fraction):
    p, q = fraction
    return str(p) if q == 1 else str(p) + '/' + str(q)


def commas(question):
    return ','.join(map(str, question))


def spaced(parts):
    return ' '.join(parts) or '-'


def event_text(event):
    word, *parts = event
    if word in ('seen', 'mend'):
        return ' '.join([word, str(parts[-1]), *map(sight_text, parts[:-1])])
    return word + ' ' + (rules_text(parts[0]) if word == 'rules' else commas(parts[0]) if word == 'ask' else str(parts[0]))


def start_text(kinds, rules, questions):
    """The lines of the first element of a log."""
    lines = [f'book {len(kinds)} {len(questions)}'] + ['kind ' + tree_text(kind) for kind in kinds] + ['rules ' + rules_text(rules)]
    return '\n'.join(lines + ['ask ' + commas(question) for question in questions])


def start_of(row):
    """The first element of a log if the row is its lines, or None."""
    log = textmodel.log_of(row.split('\n'))
    return log[0] if isinstance(log, list) and len(log) == 1 else None


def one_word(book, row):
    """The answer to a row of one word, None if there is no such row."""
    rules, counts = book.epochs[-1]
    return {
        'events': lambda: str(len(book)),
        'log': lambda: ' / '.join(map(event_text, book.log()[1:])) or '-',
        'totals': lambda: spaced(map(number_text, book.totals)),
        'questions': lambda: spaced(map(commas, book.questions)),
        'rules': lambda: rules_text(rules),
        'counts': lambda: spaced(str(number) + '*' + sight_text(sight) for sight, number in counts),
        'epochs': lambda: str(len(book.epochs)),
        'table': lambda: ' / '.join(str(k).rjust(2) + ' ' + commas(question) + ' ' + number_text(total)
                                    for k, (question, total) in enumerate(zip(book.questions, book.totals))),
        'undo': lambda: event_text(book.undo()),
    }.get(row)


def asked(book, row):
    """The answer to a row that asks something of the book with a second word, or None."""
    head, *words = row.split(' ')
    form = {'weight': 'number', 'total': 'question', 'lost': 'rules'}.get(head)
    value = textmodel.words_of(words, [form]) if form else 0
    if isinstance(value, int):
        return None
    if head == 'weight':
        return lambda: spaced(number_text(part) + '*' + sight_text(sight) for sight, part in book.weights_of(value[0]))
    if head == 'lost':
        return lambda: spaced(map(str, book.lost_under(value[0])))

    def total():
        found = book.total_now(value[0])
        return '-' if found is None else number_text(found)
    return total


class Model:

    def __init__(self):
        self.book = None

    def say(self, row):
        start = start_of(row)
        if start is not None:
            self.book = Book(*start[1:])
            return 'ok'
        if self.book is None:
            raise InvalidRow(row)
        answer = one_word(self.book, row) or asked(self.book, row)
        if answer is None:
            line = textmodel.line_of(row, textmodel.EVENTS)
            if isinstance(line, int):
                raise InvalidRow(row)
            return spaced(map(number_text, self.book.go(textmodel.event_of(line))))
        return answer()
