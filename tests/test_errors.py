"""The classes of [28] and [3]."""

import unittest

from tests.support import ExactCase
from unlikepairs import errors

WITH_STRING = [
    'InvalidSequence', 'InvalidState', 'InvalidKind', 'InvalidKinds', 'InvalidItems', 'InvalidPosition',
    'InvalidNumber', 'InvalidEffects', 'InvalidCounts', 'InvalidRecord', 'InvalidCommand', 'TooLong',
    'SameEffect', 'NothingToUndo',
]
WITH_FIELD = [
    ('InvalidText', 'index', [0, 1, 399, None]),
    ('TooMany', 'count', [3001, 10 ** 40]),
    ('Impossible', 'reason', [('unknown', 'd'), ('few', 2), ('parity', -5), ('majority', 'a', 3, 4)]),
    ('Contradiction', 'conflict', [('level', 0), ('waits', 0, 3), ('leaves', 0, 2), ('all', 0, 3)]),
]
NAMES = WITH_STRING + [name for name, field, values in WITH_FIELD]


def class_named(name):
    return getattr(errors, name)


class Relations(ExactCase):
    def test_the_base_class(self):
        self.assertEqual(errors.PairError.__bases__, (ValueError,))

    def test_each_class_is_derived_directly(self):
        for name in NAMES:
            self.assertEqual(class_named(name).__bases__, (errors.PairError,), name)

    def test_no_two_classes_are_related(self):
        for one in NAMES:
            for other in NAMES:
                self.assertEqual(issubclass(class_named(one), class_named(other)), one == other, (one, other))

    def test_each_class_is_defined_in_its_file_under_its_name(self):
        for name in NAMES + ['PairError']:
            self.assertEqual(class_named(name).__module__, 'unlikepairs.errors')
            self.assertEqual(class_named(name).__name__, name)

    def test_there_are_no_other_errors(self):
        found = [name for name, value in vars(errors).items() if isinstance(value, type)]
        self.assertEqual(sorted(found), sorted(NAMES + ['PairError']))


class Construction(ExactCase):
    def test_with_one_string(self):
        for name in WITH_STRING + ['PairError']:
            with self.assertRaises(ValueError) as caught:
                raise class_named(name)('so it is')
            self.assertIs(type(caught.exception), class_named(name))

    def test_with_the_value_of_the_field(self):
        for name, field, values in WITH_FIELD:
            for value in values:
                with self.assertRaises(errors.PairError) as caught:
                    raise class_named(name)(value)
                self.assertIs(type(caught.exception), class_named(name))
                self.same(getattr(caught.exception, field), value)

    def test_the_field_is_required(self):
        for name, field, values in WITH_FIELD:
            with self.assertRaises(TypeError):
                class_named(name)()

    def test_later_changes_of_the_argument_have_no_effect(self):
        for name, field in [('Impossible', 'reason'), ('Contradiction', 'conflict')]:
            value = ['few', [2, [3]], (4, [5])]
            error = class_named(name)(value)
            value[0] = 'parity'
            value[1][1].append(7)
            value[2][1].append(7)
            self.same(getattr(error, field), ['few', [2, [3]], (4, [5])])


if __name__ == '__main__':
    unittest.main()
