"""The package keeps to the rules of the language that a look at its source can tell, and to the interface."""

import ast
import builtins
import importlib
import inspect
import pathlib
import re
import unittest

FOLDER = pathlib.Path(__file__).resolve().parent.parent / 'unlikepairs'

INTERFACE = {
    'sequences': [
        'is_kind(value)', 'is_sequence(value)', 'is_state(value)', 'total_length(sequence)', 'counts_of(sequence)',
        'kind_at(sequence, position)', 'part_of(sequence, start, length)', 'joined(first, second)', 'runs_of(items)',
        'items_of(sequence)'],
    'waiting': [
        'state_after(sequence, state=None)', 'state_at(sequence, moment, state=None)', 'waiting_at(sequence, moment)',
        'empty_moments(sequence, state=None)', 'most_waiting(sequence, state=None)'],
    'partners': [
        'partner_of(sequence, position)', 'pair_count(sequence, moment=None)', 'pairs_of(sequence)',
        'nth_pair(sequence, index)', 'longest_wait(sequence)', 'is_pairing(sequence, value)'],
    'effects': [
        'effect_of(sequence, kind)', 'effect_on(effects, kind, state)', 'have_same_effect(first, second)',
        'state_that_differs(first, second)', 'states_before(sequence, state, kinds)'],
    'rounds': [
        'after_rounds(sequence, rounds, state=None)', 'growth_of(sequence)', 'return_of(sequence, state=None)',
        'growing_from(sequence, state=None)'],
    'meetings': [
        'distance_of(one, other)', 'meeting_moment(sequence, one, other)', 'meeting_length(kinds, one, other)',
        'shortest_meeting(kinds, one, other)'],
    'remains': [
        'can_remain(counts, state)', 'reason_against(counts, state)', 'shows_against(counts, state, value)',
        'sequence_for(counts, state)', 'remaining_range(counts, kind)', 'remaining_count(counts)'],
    'orders': [
        'order_count(counts)', 'orders_leading_to(counts, state)', 'nth_order(counts, state, index)',
        'order_index(counts, items)', 'likeliest_state(counts)'],
}

BUILTINS = set((
    'len range enumerate zip min max sum abs sorted reversed int str bool bytes list tuple dict set isinstance ord '
    'repr any all divmod ValueError TypeError KeyError IndexError LookupError ZeroDivisionError '
    'NotImplementedError NotImplemented').split())

WORDS = set((
    'type typing typing_extensions enum Enum IntEnum StrEnum Flag IntFlag Generic Protocol ABC ABCMeta namedtuple '
    'NamedTuple TypedDict TYPE_CHECKING abstractmethod').split())


def sources():
    return [(path, path.read_text(encoding='utf-8')) for path in sorted(FOLDER.rglob('*.py'))]


def nodes(*kinds):
    return [(path.name, node) for path, text in sources() for node in ast.walk(ast.parse(text))
            if isinstance(node, kinds)]


class Files(unittest.TestCase):
    def test_the_folder_contains_source_files_only(self):
        others = [path for path in FOLDER.rglob('*')
                  if path.suffix != '.py' and not path.is_dir() and '__pycache__' not in path.parts]
        self.assertEqual(others, [])
        self.assertTrue((FOLDER / '__init__.py').is_file())

    def test_characters_and_sizes(self):
        for path, text in sources():
            self.assertRegex(text, r'\A[ -~\n]*\Z', path)
            lines = text.split('\n')
            self.assertLessEqual(len(lines), 399, path)
            self.assertLessEqual(max(len(line) for line in lines), 120, path)

    def test_functions_are_short(self):
        for name, node in nodes(ast.FunctionDef):
            self.assertLessEqual(node.end_lineno - node.lineno + 1, 40, (name, node.name))

    def test_words(self):
        for path, text in sources():
            self.assertEqual(sorted(WORDS & set(re.findall(r'\w+', text))), [], path)
            for part in ['dataclass', 'overload', 'contextmanager']:
                self.assertNotIn(part, text, path)


class Source(unittest.TestCase):
    def test_imports(self):
        self.assertEqual(nodes(ast.Import), [])
        for name, node in nodes(ast.ImportFrom):
            self.assertEqual(node.level, 0, name)
            self.assertTrue(node.module.startswith('unlikepairs.'), (name, node.module))
            for alias in node.names:
                imported = getattr(importlib.import_module(node.module), alias.name)
                self.assertEqual(getattr(imported, '__module__', node.module), node.module, (name, alias.name))

    def test_names(self):
        for name, node in nodes(ast.Name):
            self.assertFalse(node.id.startswith('_'), (name, node.id))
            if node.id in dir(builtins):
                self.assertIn(node.id, BUILTINS, name)
                self.assertIsInstance(node.ctx, ast.Load, (name, node.id))
        for name, node in nodes(ast.arg):
            self.assertNotIn(node.arg, dir(builtins), name)
        for name, node in nodes(ast.FunctionDef, ast.ClassDef):
            self.assertNotIn(node.name, dir(builtins), name)

    def test_strings_and_numbers(self):
        for name, node in nodes(ast.Constant):
            self.assertNotIsInstance(node.value, (float, complex), name)
            if isinstance(node.value, str):
                self.assertNotIn('%', node.value, name)

    def test_constructs(self):
        self.assertEqual(nodes(ast.Global, ast.AsyncFunctionDef, ast.Div), [])
        for name, node in nodes(ast.Call):
            if isinstance(node.func, ast.Name) and node.func.id in ['any', 'all', 'sum', 'min', 'max', 'sorted']:
                self.assertFalse([each for each in node.args if isinstance(each, ast.GeneratorExp)], name)


class Interface(unittest.TestCase):
    def test_each_function_is_defined_in_its_file_with_its_arguments(self):
        for module, calls in INTERFACE.items():
            for call in calls:
                name = call.partition('(')[0]
                function = getattr(importlib.import_module('unlikepairs.' + module), name)
                self.assertEqual(function.__module__, 'unlikepairs.' + module, name)
                self.assertEqual(function.__name__, name)
                self.assertEqual(name + str(inspect.signature(function)), call)


if __name__ == '__main__':
    unittest.main()
