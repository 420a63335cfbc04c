"""Logs of books: which values are some, and the books that come of them."""

from thinspans.books import Book
from thinspans.errors import ThinError
from thinspans.events import is_event


def is_log(thing):
    """Whether any value is the beginning of a book, followed by events by kind, possible or not."""
    if not isinstance(thing, tuple) or not thing or not is_start(thing[0]):
        return False
    return all([is_event(event) for event in thing[1:]])


def is_start(thing):
    """Whether it is the first element of a log, of which a book can be made."""
    if not isinstance(thing, tuple) or len(thing) != 4 or thing[0] != "book":
        return False
    try:
        book_from(thing)
    except ThinError:
        return False
    return True


def book_from(start):
    _, kinds, rules, questions = start
    return Book(kinds, rules, questions)


def replayed(log):
    """A new book after the events of the log, none of them counted as an operation."""
    book = book_from(log[0])
    for event in log[1:]:
        book.follow(event)
    return book
