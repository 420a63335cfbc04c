"""A book once more, by the words of [61] to [63]: it goes through all of its events each time."""

from fractions import Fraction
from functools import lru_cache

from tests import oracle
from tests.support import names_in, random_rule, random_rules, setups
from thinspans.kinds import is_rule, is_sight
from thinspans.spreading import least_weights

MOST, EPOCHS, QUESTIONS = 40, 6, 6


@lru_cache(maxsize=None)
def sights_in(kinds, rules):
    return oracle.seen_sights(kinds, rules)


@lru_cache(maxsize=None)
def is_told_by(kinds, rules, question):
    return oracle.told(kinds, rules, question)


@lru_cache(maxsize=None)
def weights_by(kinds, rules, question):
    """A dict of the weights of least spread, one trace of each kind."""
    weights, _ = least_weights(kinds, rules, question, (1,) * len(kinds))
    assert oracle.weight_sums(kinds, rules, weights) == list(question)
    return {sight: Fraction(*part) for sight, part in weights}


def is_whole(thing):
    return type(thing) is int


def is_by_kind(thing):
    """Whether it is an event by kind."""
    if type(thing) is not tuple or not thing or type(thing[0]) is not str:
        return False
    word, parts = thing[0], thing[1:]
    if word == 'seen':
        return len(parts) == 2 and is_sight(parts[0]) and is_whole(parts[1]) and parts[1] >= 1
    if word == 'mend':
        return len(parts) == 3 and is_sight(parts[0]) and is_sight(parts[1]) and is_whole(parts[2]) and parts[2] >= 1
    if word == 'rules':
        return len(parts) == 1 and type(parts[0]) is tuple and all(
            type(pair) is tuple and len(pair) == 2 and type(pair[0]) is str and 1 <= len(pair[0]) <= 8
            and all(letter in 'abcdefghijklmnopqrstuvwxyz' for letter in pair[0]) and is_rule(pair[1]) for pair in parts[0])
    if word == 'ask':
        return len(parts) == 1 and type(parts[0]) is tuple and len(parts[0]) > 0 and all(map(is_whole, parts[0]))
    return word == 'drop' and len(parts) == 1 and is_whole(parts[0]) and parts[0] >= 0


class Model:

    def __init__(self, kinds, rules, questions):
        self.start = ('book', kinds, rules, questions)
        self.events = []

    @property
    def kinds(self):
        return self.start[1]

    def state(self):
        """The questions, and the epochs as pairs of rules and a dict of counts."""
        questions, epochs = list(self.start[3]), [(self.start[2], {})]
        for word, *parts in self.events:
            counts = epochs[-1][1]
            if word == 'seen':
                counts[parts[0]] = counts.get(parts[0], 0) + parts[1]
            elif word == 'mend':
                counts[parts[0]] -= parts[2]
                counts[parts[1]] = counts.get(parts[1], 0) + parts[2]
            elif word == 'rules':
                epochs.append((parts[0], {}))
            elif word == 'ask':
                questions.append(parts[0])
            else:
                del questions[parts[0]]
        return questions, epochs

    def total(self, question):
        """The total, None if an epoch does not tell it."""
        total = Fraction(0)
        for rules, counts in self.state()[1]:
            if not is_told_by(self.kinds, rules, question):
                return None
            weights = weights_by(self.kinds, rules, question)
            total += sum(count * weights.get(sight, 0) for sight, count in counts.items())
        return total

    def totals(self):
        return tuple(oracle.pair(self.total(question)) for question in self.state()[0])

    def epochs(self):
        return tuple((rules, tuple((sight, counts[sight]) for sight in sorted(counts) if counts[sight]))
                     for rules, counts in self.state()[1])

    def reason(self, event):
        """Why the event is not possible, None if it is."""
        if not is_by_kind(event):
            return 'shape'
        if len(self.events) >= MOST:
            return 'full'
        word, *parts = event
        return {'seen': self.no_seen, 'mend': self.no_mend, 'rules': self.no_rules, 'ask': self.no_ask,
                'drop': self.no_drop}[word](*parts)

    def no_seen(self, sight, n):
        return None if sight in sights_in(self.kinds, self.state()[1][-1][0]) else 'sight'

    def no_mend(self, sight, other, n):
        rules, counts = self.state()[1][-1]
        sights = sights_in(self.kinds, rules)
        if sight not in sights or other not in sights:
            return 'sight'
        if sight == other:
            return 'same'
        return 'few' if counts.get(sight, 0) < n else None

    def no_rules(self, rules):
        questions, epochs = self.state()
        if [service for service, _ in rules] != sorted(set().union(*[names_in(kind) for kind in self.kinds])):
            return 'rules'
        if rules == epochs[-1][0]:
            return 'same'
        if len(epochs) >= EPOCHS:
            return 'many'
        return None if all(is_told_by(self.kinds, rules, question) for question in questions) else 'told'

    def no_ask(self, question):
        questions, epochs = self.state()
        if len(question) != len(self.kinds):
            return 'question'
        if question in questions:
            return 'there'
        if len(questions) >= QUESTIONS:
            return 'many'
        return None if all(is_told_by(self.kinds, rules, question) for rules, _ in epochs) else 'told'

    def no_drop(self, k):
        questions, _ = self.state()
        if k >= len(questions):
            return 'question'
        return 'last' if len(questions) == 1 else None


def told_questions(chance, kinds, rules, many=3):
    """So many distinct questions that are told by the rules, or fewer."""
    found = []
    columns = oracle.transposed(oracle.chance_rows(kinds, rules))
    for _ in range(many):
        question = [Fraction(0)] * len(kinds)
        for column in columns:
            if chance.random() < 0.6:
                part = chance.choice([-2, -1, 1, 1, 3])
                question = [one + part * entry for one, entry in zip(question, column)]
        common = 1
        for part in question:
            common *= part.denominator
        whole = tuple(int(part * common) for part in question)
        if whole not in found:
            found.append(whole)
    return tuple(found)


def random_event(chance, model):
    """An event, often a possible one, and often one that just fails."""
    kinds = model.kinds
    questions, epochs = model.state()
    rules, counts = epochs[-1]
    sights = sights_in(kinds, rules) + [()] if chance.random() < 0.2 else sights_in(kinds, rules)
    if not sights or chance.random() < 0.1:
        sights = [(), (('top', ('a', 0, ())),), (('top', kinds[-1]),), (('lost', (kinds[0],)),)]
    word = chance.choice(['seen'] * 6 + ['mend'] * 5 + ['rules'] * 3 + ['ask'] * 3 + ['drop'])
    if word == 'seen':
        return (word, chance.choice(sights), chance.randint(1, 9))
    if word == 'mend':
        sight = chance.choice(sorted(counts) if counts and chance.random() < 0.8 else sights)
        return (word, sight, chance.choice(sights), max(1, counts.get(sight, 0) + chance.choice([-2, -1, 0, 0, 1])))
    if word == 'rules':
        some = [random_rules(chance, kinds), rules, with_one(chance, rules), with_one(chance, rules), epochs[0][0]]
        return (word, chance.choice(some + [rules[:1], rules + rules[:1], rules[::-1], ()]))
    if word == 'ask':
        asked = list(told_questions(chance, kinds, rules, 2)) + [chance.choice(questions)]
        return (word, chance.choice(asked + [asked[0][1:] or (1, 2), tuple(chance.randint(-3, 3) for _ in kinds)]))
    return (word, chance.randint(0, len(questions)))


def with_one(chance, rules):
    """The rules with a new one for some service."""
    place = chance.randrange(len(rules))
    return rules[:place] + ((rules[place][0], random_rule(chance)),) + rules[place + 1:]


def books(seed, many, size=4, kinds=3):
    """So many models of new books, each with a random.Random."""
    found = 0
    for chance, some, rules in setups(seed, many * 3, size=size, kinds=kinds):
        questions = told_questions(chance, some, rules)
        if found < many and questions:
            found += 1
            yield chance, Model(some, rules, questions)
