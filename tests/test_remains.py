"""The functions of unlikepairs.remains: [15], [15a], [16], [16a], [17a] to [17c], with [2], [3], [7] and [28]."""

import unittest

from tests.support import (
    LARGEST, SMALL_COUNTS, WRONG_COUNT_LISTS, WRONG_KINDS, WRONG_STATES, ExactCase, number_of, orders_by_state, shapes,
    times)
from unlikepairs.errors import Impossible, InvalidCounts, InvalidKind, InvalidState
from unlikepairs.remains import (
    can_remain, reason_against, remaining_count, remaining_range, sequence_for, shows_against)
from unlikepairs.sequences import counts_of, is_sequence
from unlikepairs.waiting import state_after

HUGE = 10 ** 39
ACB = [('a', 3), ('b', 1), ('c', 2)]
TWELVE = [(kind, LARGEST) for kind in 'abcdefghijkl']


def states_for(counts):
    """The states that may be asked about: None, and all that are not much too large, also of a kind without items."""
    return [None] + [(kind, number) for kind in 'abcde' for number in range(1, dict(counts).get(kind, 0) + 3)]


def reasons(counts, state):
    """The reasons of [16] that apply by [16a], in their order."""
    totals = dict(counts)
    rest = sum(totals.values()) - number_of(state)
    if state is not None and state[0] not in totals:
        return [('unknown', state[0])]
    found = []
    enough = True
    if state is not None:
        enough = state[1] <= totals[state[0]]
        if not enough:
            found.append(('few', totals[state[0]]))
        totals[state[0]] -= state[1]
    if rest % 2 != 0:
        found.append(('parity', rest))
    if enough:
        found.extend([('majority', kind, totals[kind], rest) for kind in sorted(totals) if totals[kind] * 2 > rest])
    return found


def like(values):
    """Values that look like reasons, with parts of other reasons and of other kinds."""
    names = ['unknown', 'few', 'parity', 'majority', 'other', 'Few']
    numbers = [-2, -1, 0, 1, 2, 3, 4, 5, 6]
    short = [(name, part) for name in names for part in numbers + ['a', 'b', 'd', 'z']]
    long = [('majority', kind, count, total) for kind in 'abcz' for count in numbers for total in numbers]
    return list(values) + short + long


class RemainCase(ExactCase):
    def check_sequence(self, counts, state):
        """Check the sequence of [17a] by [9b] and [10a]."""
        result = self.unchanged(sequence_for, counts, state)
        self.assertIs(type(result), list)
        self.assertTrue(is_sequence(result))
        self.assertTrue(all([type(run) is tuple for run in result]))
        self.same(counts_of(result), [tuple(entry) for entry in counts])
        self.same(state_after(result), None if state is None else tuple(state))

    def check_impossible(self, counts, state, reason):
        self.same(reason_against(counts, state), reason)
        self.same(can_remain(counts, state), False)
        self.same(shows_against(counts, state, reason), True)
        self.same(self.refuses(Impossible, sequence_for, counts, state).reason, reason)

    def check_possible(self, counts, state):
        self.same([can_remain(counts, state), reason_against(counts, state)], [True, None])
        self.check_sequence(counts, state)


class Examples(RemainCase):
    def test_can_remain(self):
        self.same([can_remain(ACB, state) for state in [None, ('a', 2), ('c', 2), ('b', 1)]],
                  [True, True, False, False])

    def test_reason_against(self):
        self.same([reason_against(ACB, state) for state in [('d', 1), ('c', 3), ('b', 1), ('c', 2)]],
                  [('unknown', 'd'), ('few', 2), ('parity', 5), ('majority', 'a', 3, 4)])

    def test_sequence_for(self):
        self.same(state_after(sequence_for([('a', 10 ** 30), ('b', 7), ('c', 5)], ('a', 10 ** 30 - 12))),
                  ('a', 999999999999999999999999999988))
        error = self.refuses(Impossible, sequence_for, [('a', 3), ('b', 1)], None)
        self.same(error.reason, ('majority', 'a', 3, 4))

    def test_remaining_range(self):
        self.same([remaining_range([('a', 5), ('b', 1), ('c', 2)], kind) for kind in ['a', 'c']], [(2, 4), None])

    def test_remaining_count(self):
        self.same([remaining_count([('a', 3), ('b', 1), ('c', 2)]), remaining_count([('a', 5), ('b', 1), ('c', 2)])],
                  [2, 2])


class AllOrders(RemainCase):
    """Against all orders of small counts."""

    def test_which_states_can_remain(self):
        for counts in SMALL_COUNTS:
            found = orders_by_state(counts)
            for state in states_for(counts):
                self.same(can_remain(counts, state), state in found)
                self.same(reason_against(counts, state) is None, state in found)
                if state in found:
                    self.check_sequence(counts, state)

    def test_ranges_and_numbers_of_states(self):
        for counts in SMALL_COUNTS:
            found = orders_by_state(counts)
            self.same(remaining_count(counts), len(found))
            for kind in 'abcde':
                numbers = sorted([state[1] for state in found if state is not None and state[0] == kind])
                self.same(remaining_range(counts, kind), (numbers[0], numbers[-1]) if numbers else None)
                if numbers:
                    self.same(numbers, list(range(numbers[0], numbers[-1] + 1, 2)))

    def test_reasons(self):
        for counts in SMALL_COUNTS:
            for state in states_for(counts):
                wanted = reasons(counts, state)
                self.same(reason_against(counts, state), wanted[0] if wanted else None)
                if wanted:
                    self.check_impossible(counts, state, wanted[0])

    def test_what_shows_that_a_state_cannot_remain(self):
        for counts in SMALL_COUNTS[::5]:
            for state in states_for(counts):
                wanted = reasons(counts, state)
                for value in like(wanted):
                    self.same(shows_against(counts, state, value), value in wanted)


class Shows(ExactCase):
    """[16a]: each of the four tuples, also where it is not the first one, and any other value."""

    def test_the_first_ones(self):
        for state in [('d', 1), ('c', 3), ('b', 1), ('c', 2)]:
            self.same(shows_against(ACB, state, reason_against(ACB, state)), True)
            for other in [('d', 1), ('c', 3), ('b', 1), ('c', 2)]:
                if other != state:
                    self.same(shows_against(ACB, other, reason_against(ACB, state)), False)

    def test_parity_behind_few(self):
        counts = [('a', 3), ('b', 1)]
        self.same(reason_against(counts, ('b', 3)), ('few', 1))
        self.same([shows_against(counts, ('b', 3), value) for value in [('few', 1), ('parity', 1)]], [True, True])
        self.same([shows_against(counts, ('b', 2), value) for value in [('few', 1), ('parity', 2)]], [True, False])

    def test_a_negative_parity(self):
        counts = [('a', 3), ('b', 1)]
        for state, value, wanted in [(('b', 5), -1, True), (('b', 7), -3, True), (('b', 6), -2, False),
                                     (('b', 5), 1, False), (('a', 5), -1, True), (('a', 4), 0, False)]:
            self.same(shows_against(counts, state, ('parity', value)), wanted)
            self.same(shows_against(counts, state, ('few', dict(counts)[state[0]])), True)

    def test_majority_behind_parity(self):
        for counts, state, value in [([('a', 3)], None, ('majority', 'a', 3, 3)),
                                     ([('a', 5), ('b', 2)], ('b', 2), ('majority', 'a', 5, 5)),
                                     ([('a', 5), ('b', 1), ('c', 1)], ('b', 1), ('majority', 'a', 5, 6))]:
            self.same(shows_against(counts, state, value), True)
        self.same(reason_against([('a', 3)], None), ('parity', 3))
        self.same(shows_against([('a', 3)], None, ('parity', 3)), True)

    def test_no_majority_behind_few(self):
        counts = [('a', 5), ('b', 1)]
        for value in [('majority', 'a', 5, 4), ('majority', 'a', 5, 5), ('majority', 'b', -1, 4)]:
            self.same(shows_against(counts, ('b', 2), value), False)
        self.same(shows_against(counts, ('b', 1), ('majority', 'a', 5, 5)), True)

    def test_an_unknown_kind_shows_only_itself(self):
        counts = [('a', 3)]
        self.same([shows_against(counts, ('b', 2), value)
                   for value in [('unknown', 'b'), ('unknown', 'a'), ('few', 0), ('parity', 1), ('parity', 3),
                                 ('majority', 'a', 3, 1), ('majority', 'a', 3, 3)]], [True] + [False] * 6)
        self.same([shows_against([], ('b', 1), ('unknown', 'b')), shows_against([], ('b', 1), ('parity', -1))],
                  [True, False])

    def test_a_known_kind_is_not_unknown(self):
        for kind in ['a', 'b', 'c']:
            for state in [(kind, 1), (kind, 9), None]:
                self.same(shows_against(ACB, state, ('unknown', kind)), False)
        self.same([shows_against([('a', 3)], None, ('unknown', None)), shows_against([('a', 3)], None, ('few', 0))],
                  [False, False])

    def test_states_that_can_remain(self):
        for state in [None, ('a', 2)]:
            for value in like([]):
                self.same(shows_against(ACB, state, value), False)

    def test_any_other_value(self):
        deep = []
        for level in range(36):
            deep = [deep]
        wrong = [None, True, False, 0, 1, '', 'few', 'parity', b'few', [], (), {}, {'few': 2}, {'few', 2}, object(),
                 tuple, deep, [deep], ('few', deep), ('majority', 'a', deep, 4), iter(('few', 2)), range(2), 'fe',
                 ('few',), ('few', 2, 2), ('few', '2'), ('few', None), ('few', (2,)), ('few', [2]), ('few', {2}),
                 (None, 2), ((), 2), (['few'], 2), (b'few', 2), ({'few': 1}, 2), [('few', 2)], (('few', 2),),
                 ('majority', 'a', 3), ('majority', 'a', 3, 4, 4), ('majority', None, 3, 4), ('majority', 'a', '3', 4),
                 ('majority', 'a', 4, 3), ('majority', 3, 'a', 4), ('majority', ['a'], 3, 4), ('unknown', None),
                 ('unknown', ['d']), ('unknown', 'D'), ('unknown', 1), ('unknown',), ('parity',), ('parity', '5'),
                 ('parity', None), ['parity', [5]], ('parity', 5, 5), ('majority', 'a', (3, 4))]
        for value in wrong:
            for state in [('d', 1), ('c', 3), ('b', 1), ('c', 2), None, ('a', 2)]:
                self.same(shows_against(ACB, state, value), False)

    def test_true_and_false_are_no_numbers(self):
        for state, name in [(None, 'parity'), (('a', 2), 'few')]:
            self.same([shows_against([('a', 1)], state, (name, number)) for number in [1, True]], [True, False])
        self.same([shows_against([('a', 1)], None, ('majority', 'a', *rest))
                   for rest in [(1, 1), (True, 1), (1, True), (True, True)]], [True, False, False, False])

    def test_reasons_may_be_lists(self):
        for state in [('d', 1), ('c', 3), ('b', 1), ('c', 2)]:
            self.same(self.unchanged(shows_against, ACB, state, list(reason_against(ACB, state))), True)


class Edges(RemainCase):
    def test_no_counts(self):
        self.check_possible([], None)
        self.same([sequence_for([], None), remaining_count([]), remaining_range([], 'a')], [[], 1, None])
        self.check_impossible([], ('a', 1), ('unknown', 'a'))

    def test_one_kind(self):
        for count in [1, 2, 5, 6, LARGEST]:
            counts = [('a', count)]
            self.check_possible(counts, ('a', count))
            self.same([remaining_range(counts, 'a'), remaining_range(counts, 'b'), remaining_count(counts)],
                      [(count, count), None, 1])
            reason = ('majority', 'a', count, count) if count % 2 == 0 else ('parity', count)
            self.check_impossible(counts, None, reason)
            self.check_impossible(counts, ('a', count + 1), ('few', count))
            self.check_impossible(counts, ('b', 1), ('unknown', 'b'))
            if count > 1:
                self.check_impossible(counts, ('a', count - 1), ('parity', 1))
            if count > 2:
                self.check_impossible(counts, ('a', count - 2), ('majority', 'a', 2, 2))

    def test_exactly_half_of_the_items(self):
        for half in [1, 2, 7, LARGEST]:
            self.check_possible([('a', half), ('b', half)], None)
            self.same(remaining_count([('a', half), ('b', half)]), 1)
        for half in [3, 8, LARGEST]:
            self.check_possible([('a', half), ('b', half - 1), ('c', 1)], None)
            self.check_impossible([('a', half), ('b', half - 2), ('c', 1)], None, ('parity', 2 * half - 1))
            self.check_possible([('a', 1), ('b', half), ('c', half), ('d', half - 1)], ('c', half))
        self.check_impossible([('a', 5), ('b', 2), ('c', 1)], None, ('majority', 'a', 5, 8))
        self.check_possible([('a', 4), ('b', 2), ('c', 2)], None)

    def test_the_kind_of_the_state_has_half_of_the_rest(self):
        self.check_possible([('a', 5), ('b', 1), ('c', 2)], ('a', 2))
        self.check_possible([('a', 5), ('b', 1), ('c', 2)], ('a', 4))
        self.check_impossible([('a', 6), ('b', 1), ('c', 1)], ('a', 2), ('majority', 'a', 4, 6))

    def test_twelve_kinds(self):
        self.check_possible(TWELVE, None)
        for kind in ['a', 'f', 'l']:
            self.check_possible(TWELVE, (kind, LARGEST))
            self.check_possible(TWELVE, (kind, 2))
            self.check_impossible(TWELVE, (kind, 1), ('parity', 12 * LARGEST - 1))
            self.check_impossible(TWELVE, (kind, LARGEST + 1), ('few', LARGEST))
            self.same(remaining_range(TWELVE, kind), (2, LARGEST))
        self.check_impossible(TWELVE, ('m', 1), ('unknown', 'm'))
        self.same(remaining_count(TWELVE), 1 + 12 * (LARGEST // 2))
        uneven = [(kind, 2 * at + 1) for at, kind in enumerate('abcdefghijkl')]
        for kind, count in uneven:
            self.check_possible(uneven, None)
            for number in range(2, count + 1, 2):
                self.check_possible(uneven, (kind, number))

    def test_a_large_rest_of_one_kind(self):
        self.check_impossible(ACB, ('a', 10), ('few', 3))
        self.check_impossible(ACB, ('a', HUGE), ('few', 3))
        self.check_impossible(ACB, ('z', HUGE), ('unknown', 'z'))

    def test_a_kind_with_all_but_one(self):
        self.check_possible([('a', LARGEST), ('b', 1)], ('a', LARGEST - 1))
        self.check_impossible([('a', LARGEST), ('b', 1)], ('b', 1), ('majority', 'a', LARGEST, LARGEST))
        self.check_impossible([('a', LARGEST), ('b', 1)], None, ('parity', LARGEST + 1))
        self.same([remaining_range([('a', LARGEST), ('b', 1)], kind) for kind in ['a', 'b']],
                  [(LARGEST - 1, LARGEST - 1), None])


class LargeNumbers(RemainCase):
    def test_all_counts_multiplied(self):
        for counts in SMALL_COUNTS[::3]:
            for factor in [7, LARGEST // 9 // 2 * 2 + 1]:
                large = [(kind, count * factor) for kind, count in counts]
                for state in states_for(counts):
                    self.same(can_remain(large, times(state, factor)), can_remain(counts, state))
                    wanted = reasons(large, times(state, factor))
                    self.same(reason_against(large, times(state, factor)), wanted[0] if wanted else None)
                    if not wanted:
                        self.check_sequence(large, times(state, factor))

    def test_both_ends_of_large_ranges(self):
        for numbers in [(LARGEST, 1, 1), (LARGEST, LARGEST, 1), (LARGEST, LARGEST - 1, LARGEST - 2), (9, LARGEST, 8),
                        (LARGEST, LARGEST // 2, LARGEST // 3), (LARGEST, LARGEST // 2, LARGEST // 2)]:
            counts = list(zip('abc', numbers))
            states = 1 if can_remain(counts, None) else 0
            for kind, count in counts:
                ends = remaining_range(counts, kind)
                if ends is None:
                    for number in [1, 2, count - 1, count]:
                        self.assertTrue(number < 1 or not can_remain(counts, (kind, number)))
                    continue
                states += (ends[1] - ends[0]) // 2 + 1
                for number in [ends[0], ends[1], ends[0] + (ends[1] - ends[0]) // 4 * 2]:
                    self.check_possible(counts, (kind, number))
                for number in [ends[0] - 2, ends[0] - 1, ends[1] + 1, ends[1] + 2]:
                    self.assertTrue(number < 1 or not can_remain(counts, (kind, number)))
            self.same(remaining_count(counts), states)


class WrongInputs(ExactCase):
    def test_counts(self):
        for value in WRONG_COUNT_LISTS:
            for function in [can_remain, reason_against, sequence_for]:
                self.refuses(InvalidCounts, function, value, None)
                self.refuses(InvalidCounts, function, value, ('a', 1))
            self.refuses(InvalidCounts, shows_against, value, None, ('parity', 1))
            self.refuses(InvalidCounts, remaining_range, value, 'a')
            self.refuses(InvalidCounts, remaining_count, value)

    def test_states(self):
        for value in WRONG_STATES:
            for counts in [ACB, []]:
                for function in [can_remain, reason_against, sequence_for]:
                    self.refuses(InvalidState, function, counts, value)
                self.refuses(InvalidState, shows_against, counts, value, ('parity', 1))

    def test_kinds(self):
        for value in WRONG_KINDS:
            self.refuses(InvalidKind, remaining_range, ACB, value)
            self.refuses(InvalidKind, remaining_range, [], value)

    def test_the_order_of_the_errors(self):
        bad = [('b', 1), ('a', 1)]
        for state in [('a', 0), True, 'a', ('A', 1)]:
            for function in [can_remain, reason_against, sequence_for]:
                self.refuses(InvalidCounts, function, bad, state)
                self.refuses(InvalidState, function, [('a', 3)], state)
            self.refuses(InvalidCounts, shows_against, bad, state, None)
            self.refuses(InvalidState, shows_against, [('a', 3)], state, None)
        for kind in ['A', '', None, 1]:
            self.refuses(InvalidCounts, remaining_range, bad, kind)
        self.refuses(InvalidCounts, sequence_for, [('a', LARGEST + 1)], None)

    def test_a_count_that_is_too_large(self):
        self.same(can_remain([('a', LARGEST)], ('a', LARGEST)), True)
        self.refuses(InvalidCounts, can_remain, [('a', LARGEST + 1)], ('a', LARGEST + 1))


class KindsOfValues(RemainCase):
    def test_lists_and_tuples_at_every_level(self):
        for counts in shapes(ACB):
            for state in [('a', 2), ['a', 2]]:
                self.same(self.unchanged(can_remain, counts, state), True)
                self.check_sequence(counts, state)
            for state in [('c', 2), ['c', 2]]:
                self.same(self.unchanged(reason_against, counts, state), ('majority', 'a', 3, 4))
                self.same(self.unchanged(shows_against, counts, state, ['majority', 'a', 3, 4]), True)
                self.same(self.unchanged(shows_against, counts, state, ('majority', 'a', 3, 4)), True)
                self.same(self.refuses(Impossible, sequence_for, counts, state).reason, ('majority', 'a', 3, 4))
            self.same(self.unchanged(remaining_range, counts, 'a'), (2, 2))
            self.same(self.unchanged(remaining_count, counts), 2)

    def test_returned_lists_are_new(self):
        self.gives_new_lists(lambda: sequence_for(ACB, None), lambda: sequence_for(ACB, ('a', 2)),
                             lambda: sequence_for([('a', 1)], ('a', 1)))
        empty = sequence_for([], None)
        empty.append('more')
        self.same(sequence_for([], None), [])

    def test_values_that_are_changed_are_judged_anew(self):
        counts, state, reason = [['a', 3], ['b', 1]], ['a', 2], ['parity', 3]
        self.same([can_remain(counts, state), remaining_count(counts)], [True, 1])
        counts[1][1] = 2
        self.same([can_remain(counts, state), shows_against(counts, state, reason)], [False, True])
        state[1] = 1
        self.same([can_remain(counts, state), shows_against(counts, state, reason)], [True, False])
        counts.append(['a', 1])
        self.refuses(InvalidCounts, can_remain, counts, state)

    def test_results_may_be_passed_on(self):
        result = sequence_for(ACB, ('a', 2))
        self.same(can_remain(counts_of(result), state_after(result)), True)


if __name__ == '__main__':
    unittest.main()
