"""The functions of unlikepairs.meetings: [14a] to [14d], with [2], [3], [6] and [7]."""

import itertools
import unittest

from tests.support import (
    LARGEST, LONGEST, S, WRONG_KIND_LISTS, WRONG_SEQUENCES, WRONG_STATES, ExactCase, all_items, effect, grouped,
    mixed_items, multiplied, number_of, shapes, times, waiting_items)
from unlikepairs.errors import InvalidKinds, InvalidSequence, InvalidState, TooLong
from unlikepairs.meetings import distance_of, meeting_length, meeting_moment, shortest_meeting
from unlikepairs.sequences import is_sequence, part_of, total_length
from unlikepairs.waiting import state_after, state_at

HUGE = 10 ** 39
TWELVE = list('abcdefghijkl')
STATES = [None] + [(kind, count) for kind in 'abd' for count in [1, 2, 3, 4]]


def all_states(kinds, most):
    """None and the states of at most so many items of the kinds."""
    return [None] + [(kind, count) for kind in kinds for count in range(1, most + 1)]


def distance(one, other):
    """[6]."""
    if one is not None and other is not None and one[0] == other[0]:
        return max(one[1], other[1]) - min(one[1], other[1])
    return number_of(one) + number_of(other)


def first_equal(items, one, other):
    """The first moment at which two states are equal, moved item by item."""
    for moment in range(len(items) + 1):
        if one == other:
            return moment
        if moment < len(items):
            one, other = effect([items[moment]], one), effect([items[moment]], other)
    return None


def least_arrivals(kinds, states):
    """The least numbers of arrivals of the kinds after which two states are equal, by a search from the equal ones.

    The search keeps to the given states. These contain more than the states that are asked for can need.
    """
    after = {(state, kind): effect([kind], state) for state in states for kind in kinds}
    before = {}
    for one, other in itertools.product(states, repeat=2):
        for kind in kinds:
            before.setdefault((after[one, kind], after[other, kind]), []).append((one, other))
    least = {(state, state): 0 for state in states}
    current = list(least)
    while current:
        following = []
        for pair in current:
            for earlier in before.get(pair, []):
                if earlier not in least:
                    least[earlier] = least[pair] + 1
                    following.append(earlier)
        current = following
    return least


class MeetingCase(ExactCase):
    def check_shortest(self, kinds, one, other, length):
        """Check a sequence of [14d] by [10a] and [10b]."""
        result = self.unchanged(shortest_meeting, kinds, one, other)
        if length is None:
            self.same(result, None)
            return
        self.assertIs(type(result), list)
        self.assertTrue(is_sequence(result))
        self.assertTrue(all([type(run) is tuple for run in result]))
        self.same(total_length(result), length)
        self.assertEqual([kind for kind, count in result if kind not in kinds], [])
        self.same(state_after(result, one), state_after(result, other))
        self.same(meeting_moment(result, one, other), length)
        if length:
            self.same(state_after(result, one), None)
            self.assertNotEqual(state_at(result, length - 1, one), state_at(result, length - 1, other))


class Examples(ExactCase):
    def test_distance_of(self):
        self.same([distance_of(('a', 2), ('b', 3)), distance_of(None, ('a', 2)), distance_of(('a', 5), ('a', 2))],
                  [5, 2, 3])

    def test_meeting_moment(self):
        w = [('c', 5)]
        self.same([meeting_moment(w, ('a', 2), ('b', 2)), meeting_moment(w, ('a', 2), ('b', 3))], [2, None])

    def test_meeting_length(self):
        one, other = ('a', 4), ('b', 2)
        self.same([meeting_length(kinds, one, other) for kinds in [['a', 'b', 'c'], ['b', 'c'], ['a', 'c']]],
                  [4, 4, None])

    def test_shortest_meeting(self):
        w = shortest_meeting(['b', 'c'], ('a', 4), ('b', 2))
        self.same([state_after(w, ('a', 4)), state_after(w, ('b', 2))], [None, None])


class OneByOne(ExactCase):
    def test_distances(self):
        for one, other in itertools.product(all_states('abc', 5), repeat=2):
            self.same(distance_of(one, other), distance(one, other))

    def test_distances_stay_or_fall_by_two(self):
        for one, other in itertools.product(all_states('abc', 4), repeat=2):
            for kind in 'abcd':
                fallen = distance_of(one, other) - distance_of(effect([kind], one), effect([kind], other))
                self.assertIn(fallen, [0, 2])

    def test_moments_of_small_sequences(self):
        for items in all_items('abc', 5):
            runs = grouped(items)
            for one, other in itertools.product(STATES, repeat=2):
                self.same(meeting_moment(runs, one, other), first_equal(items, one, other))

    def test_moments_of_longer_sequences(self):
        for step in range(1, 30):
            for kinds in ['ab', 'abc', 'aabcd', 'aaab']:
                items = mixed_items(kinds, 40, step)
                for one, other in [(('a', 6), ('b', 4)), (None, ('c', 8)), (('d', 9), ('d', 5)), (('a', 7), ('d', 7))]:
                    self.same(meeting_moment(grouped(items), one, other), first_equal(items, one, other))

    def test_moments_within_longer_runs(self):
        for first, second in itertools.product(range(1, 9), repeat=2):
            items = ['c'] * first + ['d'] * second + ['e'] * 12
            for one, other in itertools.product(all_states('abd', 5), repeat=2):
                self.same(meeting_moment(grouped(items), one, other), first_equal(items, one, other))

    def test_a_sequence_in_two_parts(self):
        for step in range(1, 12):
            runs = grouped(mixed_items('abbcd', 30, step))
            for one, other in itertools.product(STATES[:9], repeat=2):
                whole = meeting_moment(runs, one, other)
                for cut in [0, 1, 7, 15, 30]:
                    first, second = part_of(runs, 0, cut), part_of(runs, cut, 30 - cut)
                    found = meeting_moment(first, one, other)
                    if found is None:
                        found = meeting_moment(second, state_after(first, one), state_after(first, other))
                        found = None if found is None else found + cut
                    self.same(found, whole)


class Search(MeetingCase):
    def check_all(self, kinds, others, most):
        names = sorted(set(kinds + others))
        least = least_arrivals(kinds, all_states(names, 2 * most))
        for one, other in itertools.product(all_states(names, most), repeat=2):
            wanted = least.get((one, other))
            self.same(meeting_length(kinds, one, other), wanted)
            self.check_shortest(kinds, one, other, wanted)

    def test_all_lists_of_up_to_four_kinds(self):
        for size in [1, 2, 3, 4]:
            for kinds in itertools.combinations('abcd', size):
                self.check_all(list(kinds), ['a', 'b', 'e'], 4)

    def test_larger_states(self):
        for kinds in [['a', 'b'], ['b', 'c'], ['a', 'b', 'c']]:
            self.check_all(kinds, ['a', 'b'], 6)

    def test_longer_kinds(self):
        self.check_all(['a', 'aa', 'abcdefgh'], ['aa', 'b'], 3)


class Edges(MeetingCase):
    def test_equal_states(self):
        for state in [None, ('a', 1), ('m', 5), ('a', HUGE)]:
            self.same(distance_of(state, state), 0)
            for sequence in [[], S, LONGEST]:
                self.same(meeting_moment(sequence, state, state), 0)
            for kinds in [['a'], ['b'], TWELVE]:
                self.same([meeting_length(kinds, state, state), shortest_meeting(kinds, state, state)], [0, []])

    def test_none(self):
        self.same([distance_of(None, None), distance_of(('a', 3), None), distance_of(None, ('a', 3))], [0, 3, 3])
        self.same([meeting_length(['b', 'c'], None, ('a', 2)), meeting_length(['b', 'c'], ('a', 2), None)], [2, 2])
        self.same([meeting_length(['a', 'b'], None, ('a', 2)), meeting_length(['b'], None, ('a', 2))], [None, None])
        self.same(meeting_moment([('b', 1), ('c', 1)], None, ('a', 2)), 2)
        self.same(meeting_moment([('b', 2)], None, ('a', 2)), None)
        self.check_shortest(['b', 'c'], None, ('a', 2), 2)
        self.check_shortest(['b', 'c'], ('a', 6), None, 6)

    def test_odd_distances_never_meet(self):
        for one, other in [(('a', 1), None), (('a', 2), ('b', 1)), (('a', 5), ('a', 2)),
                           (('a', HUGE), ('b', HUGE + 1))]:
            for kinds in [['a'], ['c', 'd'], TWELVE]:
                self.same([meeting_length(kinds, one, other), meeting_length(kinds, other, one)], [None, None])
                self.same([shortest_meeting(kinds, one, other), shortest_meeting(kinds, other, one)], [None, None])
            self.same(meeting_moment(LONGEST, one, other), None)

    def test_even_distances(self):
        for one, other, wanted in [(('a', 4), ('a', 2), 4), (('a', 3), ('b', 1), 3), (('a', 2), ('b', 2), 2),
                                   (('a', 8), None, 8), (('m', 6), ('n', 4), 6)]:
            self.same([meeting_length(TWELVE, one, other), meeting_length(TWELVE, other, one)], [wanted, wanted])
            self.check_shortest(TWELVE, one, other, wanted)
            self.check_shortest(TWELVE, other, one, wanted)

    def test_one_kind(self):
        self.same([meeting_length(['c'], ('a', 2), ('b', 2)), meeting_length(['c'], ('a', 2), ('b', 4))], [2, None])
        self.same([meeting_length(['a'], ('a', 2), ('b', 2)), meeting_length(['b'], ('a', 2), ('b', 2))], [None, None])
        self.same(shortest_meeting(['c'], ('a', 2), ('b', 2)), [('c', 2)])
        self.same(shortest_meeting(['c'], ('a', 2), ('b', 4)), None)

    def test_the_empty_sequence(self):
        self.same([meeting_moment([], None, None), meeting_moment([], ('a', 1), ('b', 1))], [0, None])

    def test_the_end_of_a_run_and_of_the_sequence(self):
        self.same([meeting_moment([('c', count)], ('a', 3), ('b', 3)) for count in [2, 3, 4]], [None, 3, 3])
        self.same(meeting_moment([('c', 2), ('d', 1)], ('a', 3), ('b', 3)), 3)
        self.same(meeting_moment([('c', 1), ('a', 1), ('c', 5)], ('a', 3), ('b', 3)), None)
        self.same(meeting_moment([('a', 1), ('c', 9)], ('a', 2), ('b', 4)), 4)


class LargeNumbers(MeetingCase):
    def test_distances(self):
        self.same(distance_of(('a', HUGE), ('b', 3 * HUGE)), 4 * HUGE)
        self.same([distance_of(('a', HUGE), ('a', 3 * HUGE)), distance_of(('a', HUGE), None)], [2 * HUGE, HUGE])

    def test_moments_with_all_counts_multiplied(self):
        for items in all_items('abc', 4):
            for one, other in itertools.product(STATES, repeat=2):
                small = meeting_moment(grouped(items), one, other)
                for factor in [3, LARGEST // 4]:
                    wanted = None if small is None else small * factor
                    large = multiplied(grouped(items), factor)
                    self.same(meeting_moment(large, times(one, factor), times(other, factor)), wanted)

    def test_400_runs(self):
        self.same(meeting_moment(LONGEST, ('a', 1), ('b', 1)), None)
        runs = [('c', 1), ('d', LARGEST)] * 200
        many = 200 * (LARGEST + 1)
        self.same(meeting_moment(runs, ('a', many), ('b', many)), many)
        self.same(meeting_moment(runs, ('a', many + 1), ('b', many + 1)), None)
        self.same(meeting_moment(runs, ('a', many - 1), ('b', many - 1)), many - 1)

    def test_lengths(self):
        self.same(meeting_length(['b', 'c'], ('a', 4 * HUGE), ('b', 2 * HUGE)), 4 * HUGE)
        self.same(meeting_length(['a', 'c'], ('a', 4 * HUGE), ('b', 2 * HUGE)), None)
        self.same(meeting_length(['c'], ('a', HUGE), ('b', HUGE)), HUGE)

    def test_sequences_of_up_to_10_to_the_30_items(self):
        for large in [LARGEST, LARGEST - 2, LARGEST // 2]:
            for small in [0, 2, large // 2, large - 2, large]:
                for kind in ['a', 'b', 'l', 'z']:
                    other = waiting_items(kind, small)
                    if other != ('a', large) and (large - small) % 2 == 0:
                        self.check_shortest(TWELVE, ('a', large), other, large)
                        self.check_shortest(TWELVE, other, ('a', large), large)
                        self.check_shortest(['b', 'c', 'd'], ('a', large), other, large)

    def test_the_least_number_above_10_to_the_30(self):
        for one, other in [(('a', LARGEST + 1), ('b', 1)), (('a', LARGEST + 2), None), (('a', HUGE), ('b', HUGE)),
                           (('a', LARGEST + 2), ('a', LARGEST)), (('a', LARGEST + 1), ('b', LARGEST + 1))]:
            for kinds in [['b', 'c', 'd'], TWELVE]:
                self.refuses(TooLong, shortest_meeting, kinds, one, other)
                self.refuses(TooLong, shortest_meeting, kinds, other, one)
                self.same(meeting_length(kinds, one, other), number_of(one))
        self.same(shortest_meeting(['c'], ('a', LARGEST), ('b', LARGEST)), [('c', LARGEST)])
        self.refuses(TooLong, shortest_meeting, ['c'], ('a', LARGEST + 1), ('b', LARGEST + 1))

    def test_no_error_where_they_cannot_become_equal_or_are_equal(self):
        self.same(shortest_meeting(TWELVE, ('a', LARGEST + 1), None), None)
        self.same(shortest_meeting(['a', 'b'], ('a', LARGEST + 2), None), None)
        self.same(shortest_meeting(['a'], ('a', HUGE), ('b', HUGE)), None)
        self.same(shortest_meeting(TWELVE, ('a', HUGE), ('a', HUGE)), [])


class WrongInputs(ExactCase):
    def test_sequences(self):
        for value in WRONG_SEQUENCES:
            self.refuses(InvalidSequence, meeting_moment, value, None, None)
            self.refuses(InvalidSequence, meeting_moment, value, ('a', 1), ('b', 1))

    def test_states(self):
        for value in WRONG_STATES:
            for one, other in [(value, None), (None, value), (('a', 1), value), (value, value)]:
                self.refuses(InvalidState, distance_of, one, other)
                self.refuses(InvalidState, meeting_moment, S, one, other)
                self.refuses(InvalidState, meeting_moment, [], one, other)
                self.refuses(InvalidState, meeting_length, ['a'], one, other)
                self.refuses(InvalidState, shortest_meeting, ['a'], one, other)

    def test_lists_of_kinds(self):
        for value in WRONG_KIND_LISTS:
            for function in [meeting_length, shortest_meeting]:
                self.refuses(InvalidKinds, function, value, None, None)
                self.refuses(InvalidKinds, function, value, ('a', 4), ('b', 2))

    def test_the_order_of_the_errors(self):
        for one, other in [(True, None), (None, ('a', 0)), (('A', 1), 5)]:
            self.refuses(InvalidSequence, meeting_moment, [('a', 1), ('a', 1)], one, other)
            self.refuses(InvalidKinds, meeting_length, ['b', 'a'], one, other)
            self.refuses(InvalidKinds, shortest_meeting, [], one, other)
            self.refuses(InvalidState, shortest_meeting, ['a', 'b'], one, other)
        self.refuses(InvalidState, shortest_meeting, TWELVE, ('a', HUGE), ('b', 0))
        self.refuses(InvalidState, shortest_meeting, TWELVE, 0, ('b', HUGE))
        self.refuses(InvalidKinds, shortest_meeting, TWELVE + ['m'], ('a', HUGE), ('b', HUGE))


class KindsOfValues(MeetingCase):
    def test_lists_and_tuples_at_every_level(self):
        for one, other in [(('a', 4), ('b', 2)), (['a', 4], ('b', 2)), (('a', 4), ['b', 2]), (['a', 4], ['b', 2])]:
            self.same(self.unchanged(distance_of, one, other), 6)
            for value in shapes([('b', 1), ('c', 3)]):
                self.same(self.unchanged(meeting_moment, value, one, other), 4)
            for kinds in [['b', 'c'], ('b', 'c')]:
                self.same(self.unchanged(meeting_length, kinds, one, other), 4)
                self.check_shortest(kinds, one, other, 4)
        for one, other in [(('a', 3), ['a', 3]), (['a', 3], ('a', 3)), (['a', 3], ['a', 3])]:
            self.same([distance_of(one, other), meeting_moment([], one, other)], [0, 0])
            self.same([meeting_length(('a',), one, other), shortest_meeting(('a',), one, other)], [0, []])

    def test_returned_lists_are_new(self):
        self.gives_new_lists(
            lambda: shortest_meeting(['b', 'c'], ('a', 4), ('b', 2)),
            lambda: shortest_meeting(('c',), ('a', 4), ('b', 4)))
        empty = shortest_meeting(['a'], None, None)
        empty.append('more')
        self.same(shortest_meeting(['a'], None, None), [])

    def test_values_that_are_changed_are_judged_anew(self):
        one, kinds, runs = ['a', 4], ['b', 'c'], [['b', 1], ['c', 3]]
        self.same([meeting_length(kinds, one, ('b', 2)), meeting_moment(runs, one, ('b', 2))], [4, 4])
        one[1] = 6
        runs[0][1] = 2
        runs[1][1] = 4
        self.same([meeting_length(kinds, one, ('b', 2)), meeting_moment(runs, one, ('b', 2))], [6, 6])
        kinds.append('a')
        self.refuses(InvalidKinds, meeting_length, kinds, one, ('b', 2))
        one[0] = 'b'
        self.same(distance_of(one, ('b', 2)), 4)

    def test_results_may_be_passed_on(self):
        state = state_after(LONGEST, ('a', 5 * HUGE))
        self.same(distance_of(state, ('b', 5 * HUGE)), 10 * HUGE)
        self.same(meeting_moment(shortest_meeting(['c', 'd'], ('a', 9), ('b', 5)), ('a', 9), ('b', 5)), 9)


if __name__ == '__main__':
    unittest.main()
