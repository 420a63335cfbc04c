"""All examples of the document, in their order, as examples.txt has them: a row with >>>, and what it gives or raises."""

import os
import unittest

EXAMPLES = os.path.join(os.path.dirname(os.path.abspath(__file__)), 'examples.txt')


def rows():
    """(number of the row, the row behind >>>, the row that it gives or None)."""
    with open(EXAMPLES, encoding='utf-8') as file:
        lines = file.read().split('\n')
    for k, line in enumerate(lines):
        if line.startswith('>>> '):
            after = lines[k + 1]
            yield k, line[4:], after if after and not after.startswith(('>>>', '#')) else None


def outcome(row, names):
    """What the row gives, as it is written; None if it is no expression."""
    try:
        code = compile(row, EXAMPLES, 'eval')
    except SyntaxError:
        exec(row, names)
        return None
    try:
        return repr(eval(code, names))
    except ValueError as error:
        fields = ', '.join(f'{name}={value!r}' for name, value in vars(error).items())
        return f'raises {type(error).__name__}({fields})'


class Examples(unittest.TestCase):

    def test_all(self):
        names, answers = {}, 0
        for k, row, wanted in rows():
            with self.subTest(row=k):
                self.assertEqual(wanted, outcome(row, names))
                answers += wanted is not None
        self.assertEqual(41, answers)
