"""A desk: a book that is spoken to by rows of text, and answers in text."""

from thinspans.errors import InvalidRow, InvalidText
from thinspans.eventreadings import read_event, read_log, value_in
from thinspans.eventtexts import event_line
from thinspans.replaying import book_from
from thinspans.thintexts import fraction_text, question_text, rules_text, sight_text


def together(parts):
    return " ".join(parts) if parts else "-"


def fractions_answer(fractions):
    return together([fraction_text(fraction) for fraction in fractions])


def weighed_sight(weight, sight):
    return f"{weight}*{sight_text(sight)}"


def undo_answer(book):
    return event_line(book.undo())


def events_answer(book):
    return str(len(book))


def log_answer(book):
    return str(book)


def totals_answer(book):
    return fractions_answer(book.totals)


def questions_answer(book):
    return together([question_text(question) for question in book.questions])


def rules_answer(book):
    return rules_text(book.rules)


def counts_answer(book):
    _, counts = book.epochs[-1]
    return together([weighed_sight(number, sight) for sight, number in counts])


def epochs_answer(book):
    return str(len(book.epochs))


def table_answer(book):
    return " / ".join(book.table())


def weight_answer(book, k):
    return together([weighed_sight(fraction_text(weight), sight) for sight, weight in book.weights_of(k)])


def total_answer(book, question):
    total = book.total_now(question)
    return "-" if total is None else fraction_text(total)


def lost_answer(book, rules):
    return together([str(j) for j in book.lost_under(rules)])


# The rows of one word.
PLAIN = {
    "undo": undo_answer,
    "events": events_answer,
    "log": log_answer,
    "totals": totals_answer,
    "questions": questions_answer,
    "rules": rules_answer,
    "counts": counts_answer,
    "epochs": epochs_answer,
    "table": table_answer,
}
# The rows of two words that are no events: what the second word writes, and the answer.
WANTED = {"weight": "number", "total": "question", "lost": "rules"}
ASKING = {"weight": weight_answer, "total": total_answer, "lost": lost_answer}


class Desk:
    """A desk has a book, at first none."""

    def __init__(self):
        self._book = None
        # Whoever asks, no call is under way: as many are finished as are started.
        self._calls = 0

    def say(self, row):
        """The answer to the row."""
        self._calls += 1
        start = start_in(row)
        if start is not None:
            self._book = book_from(start)
            return "ok"
        if self._book is None:
            raise InvalidRow(row)
        return answer_of(self._book, row)

    def tally(self):
        """The numbers of started and of finished calls of say."""
        return self._calls, self._calls


def start_in(row):
    """The first element of a log whose lines the row is, and no others; None if it is not."""
    try:
        log = read_log(row.split("\n"))
    except InvalidText:
        return None
    return log[0] if len(log) == 1 else None


def answer_of(book, row):
    """The answer of the book to a row that does not begin another one."""
    if row in PLAIN:
        action = PLAIN[row]
        return action(book)
    head, _, word = row.partition(" ")
    if head in ASKING:
        # A missing word is read as an empty one, and several as one with spaces: neither can stand.
        value = value_in(WANTED[head], word)
        if value is None:
            raise InvalidRow(row)
        inquiry = ASKING[head]
        return inquiry(book, value)
    return fractions_answer(book.go(event_in(row)))


def event_in(row):
    try:
        return read_event(row)
    except InvalidText:
        raise InvalidRow(row) from None
