"""What the document promises over the whole program: [3] to [60] together, the guarantees [9], and that names of services do not matter."""

import random
from fractions import Fraction
from itertools import chain
from math import lcm

from tests import oracle
from tests.papermodel import fair_verdict, parting_verdict, told_verdict
from tests.support import Case, questions, random_kinds, random_rules, same, setups
from tests.test_choicechecker import verdict as choice_verdict
from tests.test_choosing import all_choices, best, by_choice, cost, random_options
from tests.test_collecting import marked_setups, parted, told_apart
from tests.test_fairness import near_questions
from tests.test_setups import new_tree
from tests.test_spreadchecker import verdict as spread_verdict
from thinspans.asking import is_told, tells, weights_for
from thinspans.averages import expected, kept_spans, look_alikes, unseen
from thinspans.blindness import are_alike, blind_base, how_many_told, is_blind, told_with
from thinspans.books import Book
from thinspans.choicechecker import lets_choice
from thinspans.choicepapers import choice_paper
from thinspans.choosing import cheapest, cost_of
from thinspans.collecting import is_told_apart, part_sights
from thinspans.drawpapers import draws_for
from thinspans.errors import InvalidPaper
from thinspans.fairchecker import lets_fair
from thinspans.fairness import is_fairly_told
from thinspans.fairpapers import fair_paper
from thinspans.fractions import total_of
from thinspans.leaving import left_of, thinned
from thinspans.losing import lost_apart, lost_by
from thinspans.partchecker import lets_parting
from thinspans.partpapers import parting_paper
from thinspans.replaying import replayed
from thinspans.setups import Only, Renamed, Setup
from thinspans.sighting import all_sights, can_be_unseen, can_be_whole, chance_of, kept_by, sight_of, sights_of
from thinspans.sights import Sight
from thinspans.spreadchecker import lets_spread
from thinspans.spreading import least_weights, spread
from thinspans.tellchecker import lets_told
from thinspans.tellers import Teller
from thinspans.tellpapers import tell_paper
from thinspans.thinreadings import rules_read, setup_read, sight_read, tree_read
from thinspans.thintexts import rules_text, setup_text, sight_text, tree_text
from thinspans.trees import services_of, size_of, spans_of

# Also names that mean something elsewhere in the document.
NAMES = ['top', 'lost', 'own', 'or', 'never', 'shared', 'kind', 'rules', 'book', 'seen', 'z', 'abcdefgh', 'aa', 'caller', 'late']


def exact(fraction):
    return Fraction(*fraction)


def crowd_of(chance, kinds):
    return tuple(chance.choice([0, 1, 2, 7, 99]) for _ in kinds)


def size(sight):
    return len(Sight(sight))


def new_sight(sight, names):
    return tuple(sorted((word, new_tree(held, names) if word == 'top' else tuple(sorted(new_tree(tree, names) for tree in held))) for word, held in sight))


class Named:
    """Kinds and rules with other names of the services, and what goes with them in their new order."""

    def __init__(self, chance, kinds, rules):
        services = services_of(kinds)
        self.names = dict(zip(services, chance.sample(NAMES, len(services))))
        trees = [new_tree(kind, self.names) for kind in kinds]
        self.order = sorted(range(len(kinds)), key=lambda k: trees[k])
        self.kinds = tuple(trees[k] for k in self.order)
        self.rules = self.by_names(rules)

    def by_names(self, pairs):
        return tuple(sorted((self.names[service], part) for service, part in pairs))

    def turned(self, parts):
        return tuple(parts[k] for k in self.order)

    def sights(self, pairs):
        return tuple(sorted((new_sight(sight, self.names), part) for sight, part in pairs))


class NamesDoNotMatter(Case):

    def test_sights_and_averages(self):
        for chance, kinds, rules in setups(900, 50):
            named = Named(chance, kinds, rules)
            crowd = crowd_of(chance, kinds)
            new = named.turned(crowd)
            self.assertEqual((named.kinds, named.rules), Renamed(Setup(kinds, rules), **named.names).form)
            for k, kind in enumerate(named.kinds):
                self.gives(named.sights(sights_of(kinds[named.order[k]], rules)), sights_of, kind, named.rules)
            self.gives(named.sights(expected(kinds, rules, crowd)), expected, named.kinds, named.rules, new)
            self.gives(unseen(kinds, rules, crowd), unseen, named.kinds, named.rules, new)
            self.gives(named.by_names(kept_spans(kinds, rules, crowd)), kept_spans, named.kinds, named.rules, new)
            self.gives(cost_of(kinds, rules, crowd), cost_of, named.kinds, named.rules, new)
            groups = sorted(tuple(sorted(named.order.index(k) for k in group)) for group in look_alikes(kinds, rules))
            self.gives(tuple(groups), look_alikes, named.kinds, named.rules)

    def test_what_is_told(self):
        for chance, kinds, rules in setups(901, 40):
            named = Named(chance, kinds, rules)
            collectors = parted(chance, kinds)
            new_collectors = tuple(tuple(sorted(named.names[service] for service in part)) for part in collectors)
            crowd = crowd_of(chance, kinds)
            self.gives(how_many_told(kinds, rules), how_many_told, named.kinds, named.rules)
            for difference in blind_base(kinds, rules):
                self.gives(True, is_blind, named.kinds, named.rules, named.turned(difference))
            for question in near_questions(chance, kinds, rules):
                new = named.turned(question)
                self.gives(is_told(kinds, rules, question), is_told, named.kinds, named.rules, new)
                self.gives(is_fairly_told(kinds, rules, question), is_fairly_told, named.kinds, named.rules, new)
                self.gives(is_told_apart(kinds, rules, collectors, question), is_told_apart, named.kinds, named.rules, new_collectors, new)
                if is_told(kinds, rules, question):
                    weights, other = least_weights(kinds, rules, question, crowd)[0], least_weights(named.kinds, named.rules, new, named.turned(crowd))[0]
                    self.gives(spread(kinds, rules, weights, crowd), spread, named.kinds, named.rules, other, named.turned(crowd))
                    self.gives(spread(kinds, rules, weights, crowd), spread, named.kinds, named.rules, named.sights(weights), named.turned(crowd))

    def test_cheapest_rules(self):
        for chance, kinds, rules in setups(902, 20, size=3, kinds=3):
            named = Named(chance, kinds, rules)
            options, crowd = random_options(chance, kinds, 8), crowd_of(chance, kinds)
            asked = tuple(questions(chance, kinds, rules, 1)[-2:])
            one, other = cheapest(kinds, options, crowd, asked), cheapest(named.kinds, named.by_names(options), named.turned(crowd), tuple(map(named.turned, asked)))
            self.assertEqual(one is None, other is None)
            if one is not None:
                self.assertEqual((one[0], len(one[1])), (other[0], len(other[1])))


class Together(Case):
    """What is told, how many, what is blind, averages, spreads, costs and weights belong together."""

    def test_averages(self):
        """[25], [28], [29] and [54]."""
        for chance, kinds, rules in setups(903, 60):
            crowd, other = crowd_of(chance, kinds), crowd_of(chance, kinds)
            seen = expected(kinds, rules, crowd)
            self.assertEqual(sum(crowd), sum(exact(often) for _, often in seen) + exact(unseen(kinds, rules, crowd)))
            spans = sum(size(sight) * exact(often) for sight, often in seen)
            self.assertEqual(spans, sum(exact(often) for _, often in kept_spans(kinds, rules, crowd)))
            self.assertEqual(spans, exact(cost_of(kinds, rules, crowd)))
            both = {}
            for sight, often in seen + expected(kinds, rules, other):
                both[sight] = both.get(sight, 0) + exact(often)
            self.gives(oracle.pairs(both), expected, kinds, rules, tuple(a + b for a, b in zip(crowd, other)))
            for kind in kinds:
                for sight, chance_of_it in sights_of(kind, rules):
                    self.assertLessEqual(size(sight), size_of(kind))
                    self.assertIsNotNone(draws_for(kind, rules, sight))
                    self.assertTrue(Sight(sight).could_be(kind))
                    self.gives(chance_of_it, chance_of, kind, rules, sight)
                self.gives((('top', kind),), sight_of, kind, tuple(path for path, _, _ in spans_of(kind)))

    def test_weights_are_right_on_the_average(self):
        """[6] and [8]."""
        for chance, kinds, rules in setups(904, 50):
            crowd = crowd_of(chance, kinds)
            seen = dict(expected(kinds, rules, crowd))
            for question in questions(chance, kinds, rules):
                weights = weights_for(kinds, rules, question)
                self.assertEqual(is_told(kinds, rules, question), weights is not None)
                if weights is not None:
                    least = least_weights(kinds, rules, question, crowd)[0]
                    for some in (weights, least):
                        self.gives(tuple((integer, 1) for integer in question), tells, kinds, rules, some)
                        self.assertEqual(total_of(question, crowd), sum(exact(weight) * exact(seen.get(sight, (0, 1))) for sight, weight in some))
                        self.assertEqual(oracle.spread_of(kinds, rules, some, crowd), exact(spread(kinds, rules, some, crowd)))
                    self.assertLessEqual(exact(spread(kinds, rules, least, crowd)), exact(spread(kinds, rules, weights, crowd)))

    def test_told_and_blind(self):
        """[36], [38], [39], [42] and [46]."""
        for chance, kinds, rules in setups(905, 50):
            base, many = blind_base(kinds, rules), how_many_told(kinds, rules)
            self.assertEqual(len(kinds), many + len(base))
            self.assertEqual(many, oracle.rank(oracle.chance_rows(kinds, rules)))
            teller = Teller(kinds, rules)
            self.assertEqual(many, teller.rank())
            for question in questions(chance, kinds, rules):
                told = is_told(kinds, rules, question)
                self.assertEqual(told, not any(total_of(question, difference) for difference in base))
                self.assertEqual(told, question in teller)
                self.assertEqual(told, told_with(kinds, rules, question))
                self.assertEqual(told, tell_paper(kinds, rules, question)[0] == 'weights')
                if is_fairly_told(kinds, rules, question):
                    self.assertTrue(told)
                for group in look_alikes(kinds, rules):
                    if told:
                        self.assertEqual(1, len({question[k] for k in group}))
            for group in look_alikes(kinds, rules):
                one, other = [tuple(int(n == k) for n in range(len(kinds))) for k in (group[0], group[-1])]
                self.gives(True, are_alike, kinds, rules, one, other)

    def test_what_is_kept(self):
        """[23] and [25]: draws for a sight lead to it; rules that are all "shared" keep more for lesser draws."""
        for chance, kinds, rules in setups(906, 40):
            shared = tuple((service, ('shared', chance.randint(0, 5), 5)) for service, _ in rules)
            for kind in kinds:
                for sight, _ in sights_of(kind, rules):
                    draw, pairs = draws_for(kind, rules, sight)
                    self.gives(sight, sight_of, kind, kept_by(kind, rules, draw, pairs))
                nothing = (((0, 1), (0, 1)),) * size_of(kind)
                kept = [set(kept_by(kind, shared, draw, nothing)) for draw in ((0, 1), (1, 5), (1, 2), (3, 5), (4, 5), (99, 100))]
                self.assertTrue(all(one >= other for one, other in zip(kept, kept[1:])))
                self.assertEqual(can_be_whole(kind, rules), chance_of(kind, rules, (('top', kind),)) != (0, 1))
                self.assertEqual(can_be_unseen(kind, rules), chance_of(kind, rules, ()) != (0, 1))

    def test_what_is_left(self):
        """Both points [27], [33] and [50]."""
        for chance, kinds, rules in setups(907, 40):
            services = services_of(kinds)
            one, other = [tuple(sorted(chance.sample(services, chance.randint(0, len(services))))) for _ in range(2)]
            both = tuple(service for service in one if service in other)
            for sight in all_sights(kinds, rules):
                self.gives(left_of(sight, both), left_of, left_of(sight, one), other)
                self.assertEqual(Sight(left_of(sight, one)), Sight(sight).left(one))
            everyone = tuple((0, sight) for sight in all_sights(kinds, rules))
            self.gives(everyone, part_sights, kinds, rules, (services,))

    def test_thinned_rules(self):
        """The second of [27]: a service by ("own", p, q) is thinned, if none has "caller"."""
        plains = [('never',), ('own', 1, 2), ('shared', 2, 3), ('bad',), ('late',), ('own', 1, 1)]
        chance = random.Random(908)
        for _ in range(40):
            kinds = random_kinds(chance, 2, 4, 'ab')
            rules = tuple((service, chance.choice(plains + [('or', chance.choice(plains), chance.choice(plains))])) for service in services_of(kinds))
            service = chance.choice(services_of(kinds))
            p, q = chance.choice([(0, 1), (1, 3), (2, 4), (5, 5)])
            before, after = [tuple((name, rule if name != service else ('own', *part)) for name, rule in rules) for part in ((1, 1), (p, q))]
            for kind in kinds:
                found = {}
                for sight, part in sights_of(kind, before):
                    for left, share in thinned(sight, service, p, q):
                        found[left] = found.get(left, 0) + exact(part) * exact(share)
                self.gives(oracle.pairs(found), sights_of, kind, after)


class Guarantees(Case):
    """[9]."""

    def test_told_or_alike_crowds(self):
        """(T1)."""
        for chance, kinds, rules in setups(910, 50):
            for question in questions(chance, kinds, rules):
                paper = tell_paper(kinds, rules, question)
                self.gives(oracle.told(kinds, rules, question), lets_told, kinds, rules, question, paper)
                self.assertIs(paper[0] == 'weights', told_verdict(kinds, rules, question, paper))
                if paper[0] == 'crowds':
                    self.gives(True, are_alike, kinds, rules, *paper[1:])

    def test_each_kind_whole(self):
        """(T2), its first sentence."""
        found = 0
        for chance, kinds, rules in chain(setups(911, 80), setups(912, 80, size=3)):
            if all(can_be_whole(kind, rules) for kind in kinds):
                found += 1
                self.gives(len(kinds), how_many_told, kinds, rules)
                self.gives((), blind_base, kinds, rules)
                self.gives(True, is_told, kinds, rules, tuple(chance.randint(-9, 9) for _ in kinds))
        self.assertGreater(found, 20)

    def test_chances_of_own_rules(self):
        """(T2), its second sentence, and [60]."""
        for chance, kinds, _ in setups(913, 50):
            words = [(service, chance.random() < 0.25) for service in services_of(kinds)]
            one, other = [tuple((service, ('never',) if never else ('own', chance.randint(1, 7), chance.randint(7, 12))) for service, never in words) for _ in range(2)]
            asked = tuple(questions(chance, kinds, one))
            for question in asked:
                self.gives(is_told(kinds, one, question), is_told, kinds, other, question)
            self.gives((), lost_by, kinds, one, other, asked)
            self.gives((), lost_by, kinds, other, one, asked)
            self.assertTrue(all(is_blind(kinds, other, difference) for difference in blind_base(kinds, one)))

    def test_fair_or_upward(self):
        """(T3)."""
        for chance, kinds, rules in setups(914, 40):
            for question in near_questions(chance, kinds, rules):
                paper = fair_paper(kinds, rules, question)
                self.gives(oracle.fairly_told(kinds, rules, question), lets_fair, kinds, rules, question, paper)
                self.assertIs(paper[0] == 'weights', fair_verdict(kinds, rules, question, paper))

    def test_multipliers(self):
        """(T4): weights that tell a question have multipliers if and only if their spread is the least."""
        counts = {True: 0, False: 0}
        for chance, kinds, rules in setups(915, 60):
            crowd = crowd_of(chance, kinds)
            for question in questions(chance, kinds, rules):
                if not is_told(kinds, rules, question):
                    continue
                weights, multipliers = least_weights(kinds, rules, question, crowd)
                self.gives(spread(kinds, rules, weights, crowd), lets_spread, kinds, rules, question, crowd, (weights, multipliers))
                other = weights_for(kinds, rules, question)
                least = spread(kinds, rules, other, crowd) == spread(kinds, rules, weights, crowd)
                counts[least] += 1
                # Multipliers are a solution of linear equations: the tests look for them by ranks.
                self.assertEqual(least, self.has_multipliers(kinds, rules, other, crowd))
                if not least:
                    self.assertRaises(InvalidPaper, lets_spread, kinds, rules, question, crowd, (other, multipliers))
                self.assertEqual(spread(kinds, rules, weights, crowd), spread_verdict(kinds, rules, question, crowd, (weights, multipliers)))
        self.assertGreater(min(counts.values()), 20)

    def has_multipliers(self, kinds, rules, weights, crowd):
        columns = oracle.transposed(oracle.chance_rows(kinds, rules))
        known = {sight: exact(weight) for sight, weight in weights}
        ends = [known.get(sight, 0) * sum(a * b for a, b in zip(crowd, column)) for sight, column in zip(oracle.seen_sights(kinds, rules), columns)]
        return oracle.rank(columns) == oracle.rank([column + [end] for column, end in zip(columns, ends)])

    def test_collectors_and_cheapest(self):
        """(T5), [53]."""
        for chance, kinds, rules in chain(setups(916, 20), marked_setups(917, 20)):
            collectors = parted(chance, kinds)
            asked = tuple(questions(chance, kinds, rules, 3))
            for question in asked:
                paper = parting_paper(kinds, rules, collectors, question)
                self.gives(told_apart(kinds, rules, collectors, question), lets_parting, kinds, rules, collectors, question, paper)
                self.assertIs(paper[0] == 'weights', parting_verdict(kinds, rules, collectors, question, paper))
                if paper[0] == 'weights':
                    self.assertTrue(is_told(kinds, rules, question))
            lost = lost_apart(kinds, rules, collectors, asked)
            self.assertEqual([j for j, question in enumerate(asked) if oracle.told(kinds, rules, question) and not told_apart(kinds, rules, collectors, question)], list(lost))

    def test_cheapest(self):
        """(T5), its second sentence, and (T6) of choice papers."""
        for chance, kinds, rules in setups(918, 30, size=3, kinds=3):
            options, crowd = random_options(chance, kinds, 8), crowd_of(chance, kinds)
            asked = tuple(questions(chance, kinds, rules, 1)[-2:])
            wanted = best(kinds, options, crowd, asked)
            self.gives(wanted, cheapest, kinds, options, crowd, asked)
            paper = choice_paper(kinds, options, crowd, asked)
            if wanted is None:
                self.assertIsNone(paper)
                continue
            self.gives(wanted[0], lets_choice, kinds, options, crowd, asked, paper)
            self.assertEqual(wanted[0], choice_verdict(kinds, options, crowd, asked, paper))
            for choice in all_choices(options):
                if cost(kinds, by_choice(options, choice), crowd) < exact(wanted[0]):
                    self.assertFalse(all(is_told(kinds, by_choice(options, choice), question) for question in asked))

    def test_a_live_book(self):
        """(T6): the totals are right on the average, whatever rules were in force, and a replayed book is equal."""
        epochs = 0
        for chance, kinds, rules in setups(919, 60, size=4, kinds=4):
            asked = [question for question in questions(chance, kinds, rules) if is_told(kinds, rules, question)]
            book = Book(kinds, rules, tuple(dict.fromkeys(asked))[:4])
            total = (0,) * len(kinds)
            for other in [rules] + [random_rules(chance, kinds) for _ in range(4)]:
                if other != book.rules and book.barred(('rules', other)) is None:
                    book.set_rules(other)
                    epochs += 1
                crowd = crowd_of(chance, kinds)
                seen = expected(kinds, book.rules, crowd)
                # So many crowds that each sight comes a whole number of times on the average.
                many = lcm(1, *[often[1] for _, often in seen])
                for sight, often in seen:
                    if len(book) < Book.MOST:
                        book.seen(sight, often[0] * (many // often[1]))
                    else:
                        break
                else:
                    total = tuple(one + many * number for one, number in zip(total, crowd))
                    self.assertTrue(same(tuple((total_of(question, total), 1) for question in book.questions), book.totals))
                    continue
                break
            other = replayed(book.log())
            self.assertTrue(other == book and same(book.totals, other.totals) and book.table() == other.table())
        self.assertGreater(epochs, 20)


class WrittenAndRead(Case):
    """What is written is read back equal: [18], [19], [20] and [21]."""

    def test_setups(self):
        for chance, kinds, rules in setups(920, 40):
            setup = Setup(kinds, rules)
            names = dict(zip(setup.services, chance.sample(NAMES, len(setup.services))))
            for one in (setup, Renamed(setup, **names), Only(setup, *chance.sample(setup.services, 1))):
                self.assertEqual(one, Setup.parsed(str(one)))
                self.gives(one.form, setup_read, setup_text(*one.form))
                self.gives(one.form[1], rules_read, rules_text(one.form[1]))
                for kind in one:
                    self.gives(kind, tree_read, tree_text(kind))
                for sight in ((),) + all_sights(*one.form):
                    self.gives(sight, sight_read, sight_text(sight))
