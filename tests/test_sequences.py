"""The functions of unlikepairs.sequences: [8a] to [8c], [9a] to [9g], with [2], [4] and [6]."""

import unittest

from tests.support import (
    LARGEST, LONGEST, S, WRONG_KINDS, WRONG_NUMBERS, WRONG_SEQUENCES, WRONG_STATES, ExactCase, all_items, grouped,
    shapes)
from unlikepairs.errors import InvalidItems, InvalidNumber, InvalidPosition, InvalidSequence, TooLong
from unlikepairs.sequences import (
    counts_of, is_kind, is_sequence, is_state, items_of, joined, kind_at, part_of, runs_of, total_length)


class Kinds(ExactCase):
    def test_kinds(self):
        for value in ['a', 'm', 'z', 'az', 'none', 'abcdefgh', 'zzzzzzzz', 'a' * 8]:
            self.same(is_kind(value), True)

    def test_other_values(self):
        for value in WRONG_KINDS:
            self.same(is_kind(value), False)

    def test_each_ascii_character(self):
        for code in range(128):
            self.same(is_kind(chr(code)), 97 <= code <= 122)
            self.same(is_kind('a' + chr(code) + 'z'), 97 <= code <= 122)

    def test_lengths(self):
        self.same([is_kind('q' * length) for length in range(11)], [False] + [True] * 8 + [False] * 2)
        self.same(is_kind('q' * 4000), False)


class Sequences(ExactCase):
    def test_example(self):
        self.same([is_sequence([('a', 3), ('b', 1)]), is_sequence([('a', 3), ('a', 1)])], [True, False])

    def test_sequences_of_lists_and_tuples(self):
        for runs in [[], [('a', 1)], [('a', LARGEST)], [('abcdefgh', 2), ('a', 1), ('abcdefgh', 2)], S, LONGEST]:
            for value in shapes(runs):
                self.same(self.unchanged(is_sequence, value), True)

    def test_other_values(self):
        for value in WRONG_SEQUENCES:
            self.same(is_sequence(value), False)
            if isinstance(value, list):
                self.same(is_sequence(tuple(value)), False)

    def test_number_of_runs(self):
        self.same(is_sequence(LONGEST[:399]), True)
        self.same(is_sequence(LONGEST), True)
        self.same(is_sequence(LONGEST + [('a', 1)]), False)
        self.same(is_sequence(tuple(LONGEST) + (('a', 1),)), False)

    def test_counts(self):
        for count, wanted in [(-1, False), (0, False), (1, True), (LARGEST, True), (LARGEST + 1, False)]:
            self.same(is_sequence([('a', count)]), wanted)
            self.same(is_sequence([('b', 1), ['a', count]]), wanted)

    def test_neighbours_are_found_at_every_place(self):
        for place in range(1, 400):
            runs = LONGEST[:place] + LONGEST[place - 1:399]
            self.same(is_sequence(runs), False)

    def test_wrong_last_run(self):
        self.same(is_sequence(LONGEST[:399] + [('b', True)]), False)
        self.same(is_sequence(LONGEST[:399] + [('B', 1)]), False)

    def test_a_value_that_is_changed_is_judged_anew(self):
        value = [['a', 1], ['b', 2]]
        self.same(is_sequence(value), True)
        value[1][0] = 'a'
        self.same(is_sequence(value), False)
        value[1][0] = 'c'
        self.same(is_sequence(value), True)
        value.append(('c', 1))
        self.same(is_sequence(value), False)

    def test_deep_values(self):
        deep = []
        for level in range(38):
            deep = [deep]
        for check in [is_kind, is_sequence, is_state]:
            self.same(check(deep), False)
            self.same(check([(deep, 1)]), False)
            self.same(check(('a', deep)), False)


class States(ExactCase):
    def test_states(self):
        self.same(is_state(None), True)
        for count in [1, 2, LARGEST, LARGEST + 1, 10 ** 39, 10 ** 45]:
            for kind in ['a', 'abcdefgh']:
                self.same(is_state((kind, count)), True)
                self.same(self.unchanged(is_state, [kind, count]), True)

    def test_other_values(self):
        for value in WRONG_STATES:
            self.same(is_state(value), False)

    def test_a_value_that_is_changed_is_judged_anew(self):
        value = ['a', 1]
        self.same(is_state(value), True)
        value[1] = 0
        self.same(is_state(value), False)


class Lengths(ExactCase):
    def test_examples(self):
        self.same(total_length(S), 9)
        self.same(counts_of(S), [('a', 4), ('b', 1), ('c', 4)])

    def test_edges(self):
        self.same(total_length([]), 0)
        self.same(total_length([('a', 1)]), 1)
        self.same(total_length(LONGEST), 400 * LARGEST)
        self.same(counts_of([]), [])
        self.same(counts_of(LONGEST), [('a', 200 * LARGEST), ('b', 200 * LARGEST)])

    def test_the_kinds_are_ascending(self):
        runs = [('z', 1), ('aa', 2), ('a', 3), ('b', 4), ('ab', 5), ('z', 6), ('a', 7)]
        self.same(counts_of(runs), [('a', 10), ('aa', 2), ('ab', 5), ('b', 4), ('z', 7)])

    def test_400_kinds(self):
        letters = 'abcdefghijklmnopqrst'
        kinds = [one + other for one in letters for other in letters]
        runs = [(kind, at + 1) for at, kind in enumerate(kinds)]
        self.same(counts_of(runs[::-1]), runs)

    def test_small_sequences(self):
        for items in all_items('abc', 5):
            runs = grouped(items)
            self.same(total_length(runs), len(items))
            self.same(counts_of(runs), [(kind, items.count(kind)) for kind in sorted(set(items))])


class Positions(ExactCase):
    def test_examples(self):
        self.same(kind_at(S, 4), 'c')
        self.refuses(InvalidPosition, kind_at, S, 9)
        self.same(part_of(S, 2, 4), [('a', 1), ('b', 1), ('c', 2)])

    def test_small_sequences(self):
        for items in all_items('abc', 5):
            runs = grouped(items)
            self.same([kind_at(runs, position) for position in range(len(items))], items)
            for start in range(len(items) + 1):
                for length in range(len(items) - start + 1):
                    self.same(part_of(runs, start, length), grouped(items[start:start + length]))

    def test_both_ends_of_the_positions(self):
        last = 400 * LARGEST - 1
        self.same([kind_at(LONGEST, 0), kind_at(LONGEST, last)], ['a', 'b'])
        self.same([kind_at(LONGEST, LARGEST - 1), kind_at(LONGEST, LARGEST)], ['a', 'b'])
        for position in [-1, last + 1, 10 ** 39, -(10 ** 39)]:
            self.refuses(InvalidPosition, kind_at, LONGEST, position)
        self.refuses(InvalidPosition, kind_at, [], 0)
        self.refuses(InvalidPosition, kind_at, [], -1)
        self.refuses(InvalidPosition, kind_at, S, -1)
        self.same(kind_at([('a', 1)], 0), 'a')
        self.refuses(InvalidPosition, kind_at, [('a', 1)], 1)

    def test_both_ends_of_a_part(self):
        self.same(part_of([], 0, 0), [])
        self.same([part_of(S, 0, 0), part_of(S, 9, 0), part_of(S, 4, 0)], [[], [], []])
        self.same(part_of(S, 0, 9), S)
        self.same(part_of(S, 8, 1), [('a', 1)])
        for start in [-1, 10, LARGEST]:
            self.refuses(InvalidPosition, part_of, S, start, 0)
        for start, length in [(0, 10), (0, -1), (8, 2), (9, 1), (9, -1), (5, 5)]:
            self.refuses(InvalidNumber, part_of, S, start, length)
        self.refuses(InvalidPosition, part_of, [], 1, 0)
        self.refuses(InvalidNumber, part_of, [], 0, 1)

    def test_large_parts(self):
        total = 400 * LARGEST
        self.same(part_of(LONGEST, 0, total), LONGEST)
        self.same(part_of(LONGEST, total, 0), [])
        self.same(part_of(LONGEST, total - 1, 1), [('b', 1)])
        self.same(part_of(LONGEST, LARGEST - 7, LARGEST + 9), [('a', 7), ('b', LARGEST), ('a', 2)])
        self.same(part_of(LONGEST, 1, total - 2), [('a', LARGEST - 1)] + LONGEST[1:399] + [('b', LARGEST - 1)])
        self.refuses(InvalidNumber, part_of, LONGEST, 1, total)
        self.refuses(InvalidPosition, part_of, LONGEST, total + 1, 0)

    def test_wrong_numbers(self):
        for value in WRONG_NUMBERS:
            self.refuses(InvalidPosition, kind_at, S, value)
            self.refuses(InvalidPosition, part_of, S, value, 0)
            self.refuses(InvalidNumber, part_of, S, 0, value)


class Joining(ExactCase):
    def test_example(self):
        self.same(joined([('a', 1), ('b', 2)], [('b', 3), ('a', 1)]), [('a', 1), ('b', 5), ('a', 1)])

    def test_empty_sequences(self):
        self.same([joined([], []), joined(S, []), joined([], S)], [[], S, S])

    def test_small_sequences(self):
        small = all_items('ab', 4)
        for first in small:
            for second in small:
                self.same(joined(grouped(first), grouped(second)), grouped(first + second))

    def test_400_and_401_runs(self):
        self.same(joined(LONGEST[:200], LONGEST[200:]), LONGEST)
        self.same(joined(LONGEST, []), LONGEST)
        self.same(joined([], LONGEST), LONGEST)
        self.refuses(TooLong, joined, LONGEST, [('a', 1)])
        self.refuses(TooLong, joined, [('b', 1)], LONGEST)
        self.refuses(TooLong, joined, LONGEST, LONGEST)

    def test_400_and_401_runs_where_two_runs_become_one(self):
        small = [('a', 1), ('b', 1)] * 200
        self.same(joined(small, [('b', 1)]), small[:399] + [('b', 2)])
        self.same(joined([('a', 1)], small), [('a', 2)] + small[1:])
        self.same(joined(small[:200], [('b', 4)] + small[200:]), small[:199] + [('b', 5)] + small[200:])
        self.refuses(TooLong, joined, small, [('b', 1), ('a', 1)])
        self.refuses(TooLong, joined, small[:201], [('a', 1)] + small[1:201])

    def test_the_joined_run(self):
        self.same(joined([('a', LARGEST - 1)], [('a', 1)]), [('a', LARGEST)])
        self.same(joined([('b', 1), ('a', 1)], [('a', LARGEST - 1), ('c', 1)]), [('b', 1), ('a', LARGEST), ('c', 1)])
        self.refuses(TooLong, joined, [('a', LARGEST)], [('a', 1)])
        self.refuses(TooLong, joined, [('b', 1), ('a', 2)], [('a', LARGEST - 1), ('c', 1)])
        self.refuses(TooLong, joined, LONGEST, [('b', 1)])
        self.same(joined([('a', LARGEST)], [('b', LARGEST)]), [('a', LARGEST), ('b', LARGEST)])


class Items(ExactCase):
    def test_examples(self):
        self.same(runs_of(['a', 'a', 'b']), [('a', 2), ('b', 1)])
        self.same(items_of(S), ['a', 'a', 'a', 'b', 'c', 'c', 'c', 'c', 'a'])

    def test_small_lists(self):
        for items in all_items('abc', 5):
            self.same(self.unchanged(runs_of, items), grouped(items))
            self.same(runs_of(tuple(items)), grouped(items))
            self.same(items_of(grouped(items)), items)

    def test_400_and_401_items(self):
        self.same(runs_of(['a'] * 400), [('a', 400)])
        self.same(runs_of(['a', 'b'] * 200), [('a', 1), ('b', 1)] * 200)
        self.refuses(InvalidItems, runs_of, ['a'] * 401)
        self.refuses(InvalidItems, runs_of, ('a',) * 401)
        self.same(items_of([('a', 400)]), ['a'] * 400)
        self.same(items_of([('a', 1), ('b', 1)] * 200), ['a', 'b'] * 200)
        self.same(items_of([('a', 399), ('b', 1)]), ['a'] * 399 + ['b'])
        self.refuses(TooLong, items_of, [('a', 401)])
        self.refuses(TooLong, items_of, [('a', 399), ('b', 2)])
        self.refuses(TooLong, items_of, [('a', 1), ('b', 1)] * 199 + [('a', 2), ('b', 1)])
        self.refuses(TooLong, items_of, LONGEST)

    def test_kinds_of_eight_and_nine_letters(self):
        self.same(runs_of(['abcdefgh', 'abcdefgh', 'a']), [('abcdefgh', 2), ('a', 1)])
        self.refuses(InvalidItems, runs_of, ['abcdefghi'])

    def test_wrong_items(self):
        for value in [None, True, 0, '', 'a', 'ab', b'ab', {}, {'a': 1}, {'a'}, iter(['a']), object(), list]:
            self.refuses(InvalidItems, runs_of, value)
        for value in WRONG_KINDS:
            self.refuses(InvalidItems, runs_of, [value])
            self.refuses(InvalidItems, runs_of, ['a', value])
            self.refuses(InvalidItems, runs_of, ('a',) * 399 + (value,))


class WrongSequences(ExactCase):
    def test_each_function_refuses_them(self):
        for value in WRONG_SEQUENCES:
            for function in [total_length, counts_of, items_of]:
                self.refuses(InvalidSequence, function, value)
            self.refuses(InvalidSequence, kind_at, value, 0)
            self.refuses(InvalidSequence, part_of, value, 0, 0)
            self.refuses(InvalidSequence, joined, value, S)
            self.refuses(InvalidSequence, joined, S, value)

    def test_the_sequence_is_judged_before_the_numbers(self):
        bad = [('a', 1), ('a', 1)]
        for wrong in [None, True, -1, 10, '0']:
            self.refuses(InvalidSequence, kind_at, bad, wrong)
            self.refuses(InvalidSequence, part_of, bad, wrong, wrong)
            self.refuses(InvalidSequence, part_of, bad, 0, wrong)
            self.refuses(InvalidPosition, part_of, S, wrong, wrong)

    def test_a_sequence_is_judged_before_it_is_too_long(self):
        self.refuses(InvalidSequence, items_of, [('a', 401), ('a', 1)])
        self.refuses(InvalidSequence, joined, LONGEST, [('a', 0)])
        self.refuses(InvalidSequence, joined, [('a', 0)], LONGEST)
        self.refuses(InvalidSequence, joined, None, None)
        self.refuses(InvalidSequence, joined, LONGEST + [('a', 1)], [])

    def test_a_sequence_that_is_changed_is_judged_anew(self):
        value = [['a', 1], ['b', 2]]
        self.same(total_length(value), 3)
        value[0][1] = 5
        self.same(total_length(value), 7)
        value[0][1] = 0
        self.refuses(InvalidSequence, total_length, value)


class KindsOfValues(ExactCase):
    def test_lists_and_tuples_at_every_level(self):
        for value in shapes(S):
            self.same(self.unchanged(total_length, value), 9)
            self.same(self.unchanged(counts_of, value), [('a', 4), ('b', 1), ('c', 4)])
            self.same(self.unchanged(kind_at, value, 8), 'a')
            self.same(self.unchanged(part_of, value, 2, 4), [('a', 1), ('b', 1), ('c', 2)])
            self.same(self.unchanged(part_of, value, 0, 9), S)
            self.same(self.unchanged(items_of, value), list('aaabcccca'))
            self.same(self.unchanged(joined, value, []), S)
            self.same(self.unchanged(joined, (), value), S)
            for other in shapes([('a', 2), ('c', 1)]):
                self.same(self.unchanged(joined, value, other), S[:3] + [('a', 3), ('c', 1)])

    def test_returned_lists_are_new(self):
        value = [('a', 1), ('b', 2)]
        calls = [
            lambda: counts_of(value), lambda: part_of(value, 0, 3), lambda: part_of(value, 1, 1),
            lambda: joined(value, []), lambda: joined([], value), lambda: joined(value, value),
            lambda: runs_of(['a', 'b']), lambda: items_of(value), lambda: part_of(value, 0, 0),
            lambda: joined([], []), lambda: runs_of([]), lambda: items_of([]), lambda: counts_of([]),
        ]
        for call in calls:
            result = call()
            wanted = repr(result)
            self.assertIsNot(result, value)
            result.append('more')
            result[0] = 'other'
            self.assertEqual(repr(call()), wanted)
            self.same(value, [('a', 1), ('b', 2)])


if __name__ == '__main__':
    unittest.main()
