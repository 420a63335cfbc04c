"""Ledgers of books: questions and epochs as they are at one time, and what events make of them.

A ledger is a pair (questions, epochs), the present epoch last. Where an event is not
possible, the functions raise InvalidEvent with the first reason.
"""

from thinspans.crowds import is_question
from thinspans.epochs import count_of, new_epoch, part_of_total, weighing_by, with_count, with_weighings
from thinspans.errors import InvalidEvent
from thinspans.fractions import sum_of
from thinspans.kindchecker import is_rules


def totals_of(ledger):
    """The tuple of the totals of the questions."""
    questions, epochs = ledger
    return tuple([sum_of([part_of_total(epoch, epoch.weighings[k]) for epoch in epochs])
                  for k in range(len(questions))])


def after_seen(ledger, event):
    _, sight, many = event
    questions, epochs = ledger
    present = epochs[-1]
    if sight not in present.sights:
        raise InvalidEvent(event, "sight")
    return questions, (*epochs[:-1], with_count(present, sight, count_of(present, sight) + many))


def after_mend(ledger, event):
    _, sight, other, many = event
    questions, epochs = ledger
    present = epochs[-1]
    if sight not in present.sights or other not in present.sights:
        raise InvalidEvent(event, "sight")
    if sight == other:
        raise InvalidEvent(event, "same")
    if count_of(present, sight) < many:
        raise InvalidEvent(event, "few")
    fewer = with_count(present, sight, count_of(present, sight) - many)
    return questions, (*epochs[:-1], with_count(fewer, other, count_of(fewer, other) + many))


def after_rules(kinds, ledger, event, most):
    """most: how many epochs there may be."""
    rules = event[1]
    questions, epochs = ledger
    if not is_rules(kinds, rules):
        raise InvalidEvent(event, "rules")
    if rules == epochs[-1].in_force:
        raise InvalidEvent(event, "same")
    if len(epochs) >= most:
        raise InvalidEvent(event, "many")
    begun = new_epoch(kinds, rules, questions)
    if None in begun.weighings:
        raise InvalidEvent(event, "told")
    return questions, (*epochs, begun)


def after_ask(kinds, ledger, event, most):
    """most: how many questions may be asked."""
    question = event[1]
    questions, epochs = ledger
    if not is_question(kinds, question):
        raise InvalidEvent(event, "question")
    if question in questions:
        raise InvalidEvent(event, "there")
    if len(questions) >= most:
        raise InvalidEvent(event, "many")
    weighings = [weighing_by(epoch.chances, question) for epoch in epochs]
    if None in weighings:
        raise InvalidEvent(event, "told")
    asked = [with_weighings(epoch, (*epoch.weighings, weighing)) for epoch, weighing in zip(epochs, weighings)]
    return (*questions, question), tuple(asked)


def after_drop(ledger, event):
    k = event[1]
    questions, epochs = ledger
    if k >= len(questions):
        raise InvalidEvent(event, "question")
    if len(questions) == 1:
        raise InvalidEvent(event, "last")
    left = [with_weighings(epoch, without(epoch.weighings, k)) for epoch in epochs]
    return without(questions, k), tuple(left)


def without(things, k):
    return things[:k] + things[k + 1:]
