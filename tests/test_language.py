"""The package keeps to the rules of the language that a look at its source can tell, and to the interface."""

import ast
import builtins
import importlib
import inspect
import pathlib
import re
import unittest

FOLDER = pathlib.Path(__file__).resolve().parent.parent / 'unlikepairs'

INTERFACE = {
    'sequences': [
        'is_kind(value)', 'is_sequence(value)', 'is_state(value)', 'total_length(sequence)', 'counts_of(sequence)',
        'kind_at(sequence, position)', 'part_of(sequence, start, length)', 'joined(first, second)', 'runs_of(items)',
        'items_of(sequence)'],
    'waiting': [
        'state_after(sequence, state=None)', 'state_at(sequence, moment, state=None)', 'waiting_at(sequence, moment)',
        'empty_moments(sequence, state=None)', 'most_waiting(sequence, state=None)'],
    'partners': [
        'partner_of(sequence, position)', 'pair_count(sequence, moment=None)', 'pairs_of(sequence)',
        'nth_pair(sequence, index)', 'longest_wait(sequence)', 'is_pairing(sequence, value)'],
    'effects': [
        'effect_of(sequence, kind)', 'effect_on(effects, kind, state)', 'have_same_effect(first, second)',
        'state_that_differs(first, second)', 'states_before(sequence, state, kinds)'],
    'rounds': [
        'after_rounds(sequence, rounds, state=None)', 'growth_of(sequence)', 'return_of(sequence, state=None)',
        'growing_from(sequence, state=None)'],
    'meetings': [
        'distance_of(one, other)', 'meeting_moment(sequence, one, other)', 'meeting_length(kinds, one, other)',
        'shortest_meeting(kinds, one, other)'],
    'remains': [
        'can_remain(counts, state)', 'reason_against(counts, state)', 'shows_against(counts, state, value)',
        'sequence_for(counts, state)', 'remaining_range(counts, kind)', 'remaining_count(counts)'],
    'orders': [
        'order_count(counts)', 'orders_leading_to(counts, state)', 'nth_order(counts, state, index)',
        'order_index(counts, items)', 'likeliest_state(counts)'],
    'records': [
        'conflict_of(kinds, record)', 'fitting_count(kinds, record)', 'nth_fitting(kinds, record, index)',
        'fitting_index(kinds, record, items)', 'certain_kinds(kinds, record)', 'record_of(items)'],
    'station': ['Station()'],
    'texts': [
        'format_sequence(sequence)', 'format_state(state)', 'format_record(record)', 'parse_sequence(text)',
        'parse_state(text)', 'parse_record(text)'],
    'console': ['Console()'],
}

METHODS = {
    'station.Station': [
        'arrive(self, kind, count=1)', 'give_up(self, index, count=1)', 'undo(self)', 'current_state(self)',
        'waiting_positions(self)', 'arrival_count(self)', 'pair_total(self)', 'give_up_count(self)',
        'partner_at(self, position)', 'operations_done(self)', 'duplicate(self)', '__eq__(self, other)',
        '__len__(self)'],
    'console.Console': ['execute(self, line)'],
}

BUILTINS = set((
    'len range enumerate zip min max sum abs sorted reversed int str bool bytes list tuple dict set isinstance ord '
    'repr any all divmod ValueError TypeError KeyError IndexError LookupError ZeroDivisionError '
    'NotImplementedError NotImplemented').split())

METHODS_OF_VALUES = set((
    'append clear copy count endswith extend find get index insert items join keys partition pop remove replace '
    'reverse rfind setdefault split startswith strip update values').split())

WORDS = set((
    'type typing typing_extensions enum Enum IntEnum StrEnum Flag IntFlag Generic Protocol ABC ABCMeta namedtuple '
    'NamedTuple TypedDict TYPE_CHECKING abstractmethod').split())


def sources():
    return [(path, path.read_text(encoding='utf-8')) for path in sorted(FOLDER.rglob('*.py'))]


def nodes(*kinds):
    return [(path.name, node) for path, text in sources() for node in ast.walk(ast.parse(text))
            if isinstance(node, kinds)]


class Files(unittest.TestCase):
    def test_the_folder_contains_source_files_only(self):
        others = [path for path in FOLDER.rglob('*')
                  if path.suffix != '.py' and not path.is_dir() and '__pycache__' not in path.parts]
        self.assertEqual(others, [])
        self.assertTrue((FOLDER / '__init__.py').is_file())

    def test_characters_and_sizes(self):
        for path, text in sources():
            self.assertRegex(text, r'\A[ -~\n]*\Z', path)
            lines = text.split('\n')
            self.assertLessEqual(len(lines), 399, path)
            self.assertLessEqual(max(len(line) for line in lines), 120, path)

    def test_functions_are_short(self):
        for name, node in nodes(ast.FunctionDef):
            self.assertLessEqual(node.end_lineno - node.lineno + 1, 40, (name, node.name))

    def test_words(self):
        for path, text in sources():
            self.assertEqual(sorted(WORDS & set(re.findall(r'\w+', text))), [], path)
            for part in ['dataclass', 'overload', 'contextmanager']:
                self.assertNotIn(part, text, path)


class Source(unittest.TestCase):
    def test_imports(self):
        self.assertEqual(nodes(ast.Import), [])
        for name, node in nodes(ast.ImportFrom):
            self.assertEqual(node.level, 0, name)
            self.assertTrue(node.module.startswith('unlikepairs.'), (name, node.module))
            for alias in node.names:
                imported = getattr(importlib.import_module(node.module), alias.name)
                self.assertEqual(getattr(imported, '__module__', node.module), node.module, (name, alias.name))

    def test_names(self):
        for name, node in nodes(ast.Name):
            self.assertFalse(node.id.startswith('_'), (name, node.id))
            if node.id in dir(builtins):
                self.assertIn(node.id, BUILTINS, name)
                self.assertIsInstance(node.ctx, ast.Load, (name, node.id))
        for name, node in nodes(ast.arg):
            self.assertNotIn(node.arg, dir(builtins), name)
        for name, node in nodes(ast.FunctionDef, ast.ClassDef):
            self.assertNotIn(node.name, dir(builtins), name)

    def test_strings_and_numbers(self):
        for name, node in nodes(ast.Constant):
            self.assertNotIsInstance(node.value, (float, complex), name)
            if isinstance(node.value, str):
                self.assertNotIn('%', node.value, name)

    def test_constructs(self):
        self.assertEqual(nodes(ast.Global, ast.AsyncFunctionDef, ast.Div), [])
        for name, node in nodes(ast.Call):
            if isinstance(node.func, ast.Name) and node.func.id in ['any', 'all', 'sum', 'min', 'max', 'sorted']:
                self.assertFalse([each for each in node.args if isinstance(each, ast.GeneratorExp)], name)

    def test_no_variable_has_the_name_of_an_import_or_a_class(self):
        for path, text in sources():
            tree = ast.parse(text)
            taken = {alias.name for node in ast.walk(tree) if isinstance(node, ast.ImportFrom) for alias in node.names}
            taken |= {node.name for node in ast.walk(tree) if isinstance(node, ast.ClassDef)}
            variables = {node.arg for node in ast.walk(tree) if isinstance(node, ast.arg)}
            variables |= {node.id for node in ast.walk(tree)
                          if isinstance(node, ast.Name) and isinstance(node.ctx, ast.Store)}
            self.assertEqual(sorted(taken & variables), [], path)

    def test_attributes_and_methods(self):
        assigned = {node.attr for name, node in nodes(ast.Attribute) if isinstance(node.ctx, ast.Store)}
        read = {node.attr for name, node in nodes(ast.Attribute) if isinstance(node.ctx, ast.Load)}
        methods = {part.name for name, node in nodes(ast.ClassDef) for part in node.body
                   if isinstance(part, ast.FunctionDef)}
        self.assertEqual(sorted(assigned & methods), [])
        self.assertEqual(sorted(read - assigned - methods - METHODS_OF_VALUES), [])
        values = ['', 0, [], (), {}, set(), b'']
        taken = {each for value in values for each in dir(value) if not each.startswith('__')} - {'count', 'index'}
        self.assertEqual(sorted((assigned | methods) & taken), [])

    def test_double_underscore_methods_are_one_return(self):
        for name, node in nodes(ast.FunctionDef):
            if node.name.startswith('__') and node.name != '__init__':
                self.assertEqual([type(part) for part in node.body], [ast.Return], (name, node.name))


class Interface(unittest.TestCase):
    def test_each_function_is_defined_in_its_file_with_its_arguments(self):
        for module, calls in INTERFACE.items():
            for call in calls:
                name = call.partition('(')[0]
                function = getattr(importlib.import_module('unlikepairs.' + module), name)
                self.assertEqual(function.__module__, 'unlikepairs.' + module, name)
                self.assertEqual(function.__name__, name)
                self.assertEqual(name + str(inspect.signature(function)), call)

    def test_each_method_is_defined_in_its_class_with_its_arguments(self):
        for place, calls in METHODS.items():
            module, name = place.split('.')
            body = vars(getattr(importlib.import_module('unlikepairs.' + module), name))
            for call in calls:
                method = body[call.partition('(')[0]]
                self.assertEqual(method.__name__ + str(inspect.signature(method)), call, place)


if __name__ == '__main__':
    unittest.main()
