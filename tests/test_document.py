"""Each example of the document, by its text, one after the other in one and the same namespace."""

import unittest
from pathlib import Path

from mendfew.errors import MendError

TEXT = (Path(__file__).resolve().parent / 'examples.txt').read_text(encoding='ascii')


def examples():
    """Each pair of what is entered and what must be answered, '' where nothing is."""
    found = []
    for line in TEXT.splitlines():
        if line.startswith('>>> '):
            found.append([line[4:], []])
        elif not line.startswith('#'):
            found[-1][1].append(line)
    return [(entered, '\n'.join(answer)) for entered, answer in found]


def told(entered, names):
    """What is answered: the value as Python shows it, or the error with its class and fields."""
    try:
        code = compile(entered, 'examples.txt', 'eval')
    except SyntaxError:
        exec(entered, names)
        return ''
    try:
        value = eval(code, names)
    except MendError as error:
        fields = ', '.join(f'{name}={value!r}' for name, value in vars(error).items())
        return f'raises {type(error).__name__}({fields})'
    return repr(value)


class DocumentTest(unittest.TestCase):
    def test_each_example_by_its_text(self):
        names = {}
        for entered, answer in examples():
            with self.subTest(entered):
                self.assertEqual(told(entered, names), answer)

    def test_they_are_all_there(self):
        self.assertEqual(len(examples()), 123)
        self.assertEqual(len([answer for _, answer in examples() if answer.startswith('raises ')]), 25)
        modules = {entered.split()[1] for entered, _ in examples() if entered.startswith('from ')}
        self.assertEqual(len(modules), 33)
