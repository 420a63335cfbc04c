"""A live book, which adds sights up while rules and questions change."""

from thinspans.asking import untold_places
from thinspans.crowds import check_question, is_question
from thinspans.epochs import counts_of, new_epoch, part_of_total, weighing_by, weights_in
from thinspans.errors import InvalidEvent, NothingToUndo, NotTold, NotUsable
from thinspans.events import is_event
from thinspans.eventtexts import event_line
from thinspans.fractions import sum_of
from thinspans.kindchecker import lets_kinds, lets_rules
from thinspans.kinds import is_number, is_sight
from thinspans.ledgers import after_ask, after_drop, after_mend, after_rules, after_seen, totals_of
from thinspans.ordering import ascending
from thinspans.thintexts import fraction_text, question_text


class Book:
    """Kinds, questions of them, and epochs; events change it."""

    MOST = 40
    EPOCHS = 6
    QUESTIONS = 6

    def __init__(self, kinds, rules, questions):
        lets_kinds(kinds)
        lets_rules(kinds, rules)
        if not are_asked(kinds, questions, Book.QUESTIONS):
            raise NotUsable("questions", -1)
        first = new_epoch(kinds, rules, questions)
        for question, weighing in zip(questions, first.weighings):
            if weighing is None:
                raise NotTold(question)
        self._start = ("book", kinds, rules, questions)
        self._events = []
        # The ledger of the beginning, then that behind each event: so an event is undone by going back.
        self._ledgers = [(questions, (first,))]
        # Whoever asks, no operation is under way: as many are finished as are started.
        self._operations = 0

    @property
    def kinds(self):
        return self._start[1]

    @property
    def rules(self):
        return self._present().in_force

    @property
    def questions(self):
        return self._ledgers[-1][0]

    @property
    def totals(self):
        return totals_of(self._ledgers[-1])

    @property
    def epochs(self):
        return tuple([(epoch.in_force, counts_of(epoch)) for epoch in self._ledgers[-1][1]])

    def seen(self, sight, n):
        return self.go(("seen", sight, n))

    def mend(self, sight, other, n):
        return self.go(("mend", sight, other, n))

    def set_rules(self, rules):
        return self.go(("rules", rules))

    def ask(self, question):
        return self.go(("ask", question))

    def drop(self, k):
        return self.go(("drop", k))

    def go(self, event):
        """Applies the event; returns the totals."""
        self._operations += 1
        self.follow(event)
        return self.totals

    def __call__(self, event):
        return self.go(event)

    def follow(self, event):
        """Applies the event as go does, but is not counted as an operation."""
        ledger = self._behind(self._ledgers[-1], len(self._events), event)
        self._ledgers.append(ledger)
        self._events.append(event)

    def _behind(self, ledger, many, event):
        """The ledger behind the event, when it comes behind so many others."""
        if not is_event(event):
            raise InvalidEvent(event, "shape")
        if many >= Book.MOST:
            raise InvalidEvent(event, "full")
        word = event[0]
        if word == "seen":
            return after_seen(ledger, event)
        if word == "mend":
            return after_mend(ledger, event)
        if word == "rules":
            return after_rules(self.kinds, ledger, event, Book.EPOCHS)
        if word == "ask":
            return after_ask(self.kinds, ledger, event, Book.QUESTIONS)
        return after_drop(ledger, event)

    def _present(self):
        """The present epoch."""
        return self._ledgers[-1][1][-1]

    def __getitem__(self, at):
        self._check_place(at)
        return self.totals[at]

    def _check_place(self, k):
        if not is_number(k) or k >= len(self.questions):
            raise NotUsable("question", k)

    def __iter__(self):
        # Otherwise Python would count places up until an error that is not its own comes.
        raise TypeError("a book is not iterated over")

    def __contains__(self, x):
        return is_sight(x) and x in self._present().sights

    def __len__(self):
        return len(self._events)

    def __eq__(self, other):
        return isinstance(other, Book) and self._start == other._start and self._events == other._events

    def tried(self, *events):
        """The totals behind the events; nothing changes."""
        ledger = self._ledgers[-1]
        for k, event in enumerate(events):
            ledger = self._behind(ledger, len(self._events) + k, event)
        return totals_of(ledger)

    def undo(self):
        """Takes the last event back and returns it."""
        self._operations += 1
        if not self._events:
            raise NothingToUndo(0)
        self._ledgers.pop()
        return self._events.pop()

    def do_all(self, *events, keep=False):
        """Applies the events and returns their number; after an error, those before stay if keep is True."""
        self._operations += 1
        before = len(self._events)
        try:
            for event in events:
                self.follow(event)
        except InvalidEvent:
            if keep is not True:
                del self._events[before:]
                del self._ledgers[before + 1:]
            raise
        return len(events)

    def tally(self):
        """The numbers of started and of finished operations."""
        return self._operations, self._operations

    def table(self):
        """A list with a row for each question."""
        return [f"{k:>2} {question_text(question)} {fraction_text(total)}"
                for k, (question, total) in enumerate(zip(self.questions, self.totals))]

    def barred(self, event):
        """The reason for which any value is not possible as an event, or None."""
        try:
            self._behind(self._ledgers[-1], len(self._events), event)
        except InvalidEvent as error:
            return error.reason
        return None

    def weights_of(self, k):
        """The weights of question k in the present epoch."""
        self._check_place(k)
        return weights_in(self._present(), k)

    def total_now(self, question):
        """What the total of the question would be if it were asked, None if some epoch does not tell it."""
        check_question(self.kinds, question)
        epochs = self._ledgers[-1][1]
        weighings = [weighing_by(epoch.chances, question) for epoch in epochs]
        if None in weighings:
            return None
        return sum_of([part_of_total(epoch, weighing) for epoch, weighing in zip(epochs, weighings)])

    def lost_under(self, rules):
        """The set of the indexes of the questions that are not told by the rules."""
        lets_rules(self.kinds, rules)
        return tuple(untold_places(self.kinds, rules, self.questions))

    def log(self):
        return (self._start, *self._events)

    def __str__(self):
        if not self._events:
            return "-"
        return " / ".join([event_line(event) for event in self._events])


def are_asked(kinds, thing, most):
    """Whether it is a tuple of one to so many distinct questions."""
    if not isinstance(thing, tuple) or not 1 <= len(thing) <= most:
        return False
    return all([is_question(kinds, part) for part in thing]) and len(ascending(thing)) == len(thing)
