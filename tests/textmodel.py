"""Readers once more: each word is taken apart by its signs, and stands if what comes of it is written so."""

import re

from thinspans.kinds import is_name, is_rule, is_sight, is_tree
from thinspans.thintexts import question_text, rules_text, sight_text, tree_text


class Wrong(Exception):
    """A word cannot stand."""


def rows_in(tree):
    """The most spans in a row."""
    return 1 + max([rows_in(call) for call in tree[2]], default=0)


def tree_from(text):
    """The tree at the beginning of the text, and the rest."""
    found = re.match(r'([a-z]{1,8})(!?)', text)
    if found is None:
        raise Wrong
    rest = text[found.end():]
    calls = []
    if rest[:1] == '(':
        more = ','
        while more == ',':
            call, rest = tree_from(rest[1:])
            calls.append(call)
            more = rest[:1]
        if more != ')':
            raise Wrong
        rest = rest[1:]
    return (found[1], len(found[2]), tuple(calls)), rest


def trees_from(text):
    """The trees of the whole text, with commas between."""
    found = []
    while True:
        tree, text = tree_from(text)
        found.append(tree)
        if text == '':
            return tuple(found)
        if text[0] != ',':
            raise Wrong
        text = text[1:]


def checked_trees(text):
    trees = trees_from(text)
    if not all(is_tree(tree) and rows_in(tree) <= 30 for tree in trees):
        raise Wrong
    return trees


def tree_value(word):
    trees = checked_trees(word)
    if len(trees) != 1 or tree_text(trees[0]) != word:
        raise Wrong
    return trees[0]


def number_value(word, least=0):
    if not re.fullmatch('0|[1-9][0-9]{0,59}', word) or int(word) < least:
        raise Wrong
    return int(word)


def rule_value(text):
    parts = []
    for part in text.split('+'):
        found = re.fullmatch('([a-z]+)(?::([0-9]+)/([0-9]+))?', part)
        if found is None:
            raise Wrong
        parts.append((found[1],) if found[2] is None else (found[1], number_value(found[2]), number_value(found[3])))
    rule = parts[0] if len(parts) == 1 else ('or', *parts)
    if not is_rule(rule):
        raise Wrong
    return rule


def rules_value(word):
    pairs = []
    for part in word.split(';') if word != '-' else []:
        if part.count('=') != 1 or not is_name(part.split('=')[0]):
            raise Wrong
        pairs.append((part.split('=')[0], rule_value(part.split('=')[1])))
    if rules_text(tuple(pairs)) != word:
        raise Wrong
    return tuple(pairs)


def sight_value(word):
    pieces = []
    for part in word.split('|') if word != '-' else []:
        if part[:1] == '^' and len(checked_trees(part[1:])) == 1:
            pieces.append(('top', checked_trees(part[1:])[0]))
        elif part[:1] == '?':
            pieces.append(('lost', checked_trees(part[1:])))
        else:
            raise Wrong
    if not is_sight(tuple(pieces)) or sight_text(tuple(pieces)) != word:
        raise Wrong
    return tuple(pieces)


def question_value(word):
    if not re.fullmatch('(0|-?[1-9][0-9]{0,59})(,(0|-?[1-9][0-9]{0,59}))*', word):
        raise Wrong
    question = tuple(int(part) for part in word.split(','))
    assert question_text(question) == word
    return question


VALUES = {'tree': tree_value, 'rules': rules_value, 'sight': sight_value, 'question': question_value, 'number': number_value,
          'count': lambda word: number_value(word, 1)}
LINES = {'seen': ['count', 'sight'], 'mend': ['count', 'sight', 'sight'], 'rules': ['rules'], 'ask': ['question'], 'drop': ['number'],
         'book': ['count', 'count'], 'kind': ['tree']}
EVENTS = ['seen', 'mend', 'rules', 'ask', 'drop']


def words_of(words, forms):
    """The values of the words, or the index of the first one that cannot stand or is missing or too many."""
    values = []
    for k, form in enumerate(forms):
        try:
            values.append(VALUES[form](words[k]))
        except (Wrong, IndexError):
            return k
    return len(forms) if len(words) > len(forms) else values


def line_of(text, heads):
    """(first word, values), or the index of the first word that is not possible."""
    words = text.split(' ')
    if words[0] not in heads:
        return 0
    found = words_of(words[1:], LINES[words[0]])
    return found + 1 if isinstance(found, int) else (words[0], found)


def event_of(found):
    word, values = found
    return (word, *values[1:], values[0]) if word in ('seen', 'mend') else (word, *values)


def lines_of(lines, heads_of):
    """The lines' words and values, heads_of giving the possible first words of each; or (line, word) where they end."""
    found = []
    while True:
        heads = heads_of(found)
        if len(found) == len(lines):
            return found if heads is None or heads == EVENTS else (len(lines), 0)
        if heads is None:
            return len(found), 0
        line = line_of(lines[len(found)], heads)
        if isinstance(line, int):
            return len(found), line
        found.append(line)


def setup_of(text):
    """What setup_read gives, or (line, field)."""
    found = lines_of(text.split('\n'), lambda found: None if found and found[-1][0] == 'rules' else ['kind', 'rules'])
    if isinstance(found, tuple):
        return found
    return [tuple(values[0] for _, values in found[:-1]), found[-1][1][0]]


def log_heads(found):
    if not found:
        return ['book']
    kinds, questions = found[0][1]
    if len(found) <= kinds:
        return ['kind']
    if len(found) == kinds + 1:
        return ['rules']
    return ['ask'] if len(found) <= kinds + 1 + questions else EVENTS


def log_of(lines):
    """What read_log gives, as a list, or (line, field)."""
    found = lines_of(lines, log_heads)
    if isinstance(found, tuple):
        return found
    kinds, questions = found[0][1]
    begin = kinds + 2 + questions
    parts = [values[0] for _, values in found[1:begin]]
    return [('book', tuple(parts[:kinds]), parts[kinds], tuple(parts[kinds + 1:]))] + [event_of(line) for line in found[begin:]]
