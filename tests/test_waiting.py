"""The functions of unlikepairs.waiting: [10], [10a] to [10e], with [2], [5], [6] and [7]."""

import unittest

from tests.support import (
    LARGEST, LONGEST, S, WRONG_NUMBERS, WRONG_SEQUENCES, WRONG_STATES, ExactCase, all_items, grouped, multiplied,
    number_of, queues, ranges_of, shapes, state_of, times)
from unlikepairs.errors import InvalidPosition, InvalidSequence, InvalidState
from unlikepairs.waiting import empty_moments, most_waiting, state_after, state_at, waiting_at

STATES = [None] + [(kind, count) for kind in 'abd' for count in [1, 2, 3, 5]]


def distance(one, other):
    if one is not None and other is not None and one[0] == other[0]:
        return abs(one[1] - other[1])
    return number_of(one) + number_of(other)


class Examples(ExactCase):
    def test_state_after(self):
        self.same([state_after(S), state_after(S, ('c', 2))], [('c', 1), ('c', 3)])

    def test_state_at(self):
        self.same([state_at(S, m) for m in [0, 2, 4, 6, 8]], [None, ('a', 2), ('a', 2), None, ('c', 2)])

    def test_waiting_at(self):
        self.same([waiting_at(S, 5), waiting_at(S, 8)], [[(2, 2)], [(6, 7)]])
        self.same(waiting_at([('a', 2), ('b', 1), ('a', 1)], 4), [(1, 1), (3, 3)])

    def test_empty_moments(self):
        self.same([empty_moments(S), empty_moments(S, ('c', 2))], [[0, 6], [2, 4]])

    def test_most_waiting(self):
        self.same(most_waiting(S), (3, 3))


class OneByOne(ExactCase):
    """Small sequences, compared with items that are kept one by one at all moments."""

    def check_states(self, items, state):
        runs = grouped(items)
        states = [state_of(queue) for queue in queues(items, state)]
        numbers = [number_of(each) for each in states]
        self.same([state_at(runs, moment, state) for moment in range(len(items) + 1)], states)
        self.same(state_after(runs, state), states[-1])
        self.same(empty_moments(runs, state), [moment for moment, each in enumerate(states) if each is None])
        self.same(most_waiting(runs, state), (max(numbers), numbers.index(max(numbers))))

    def test_without_a_state(self):
        for items in all_items('abc', 7):
            self.check_states(items, None)

    def test_with_each_state(self):
        for items in all_items('abc', 5):
            for state in STATES:
                self.check_states(items, state)

    def test_waiting_positions(self):
        for items in all_items('abc', 7):
            wanted = [ranges_of([position for kind, position in queue]) for queue in queues(items)]
            self.same([waiting_at(grouped(items), moment) for moment in range(len(items) + 1)], wanted)

    def test_longer_sequences(self):
        for step in range(1, 40):
            items = ['abcd'[(at * at * step + at // 3 + step) % 7 % 4] for at in range(90)]
            for state in [None, ('a', 4), ('d', 50), ('e', 7)]:
                self.check_states(items, state)
            wanted = [ranges_of([position for kind, position in queue]) for queue in queues(items)]
            self.same([waiting_at(grouped(items), moment) for moment in range(91)], wanted)


class Guarantees(ExactCase):
    """[7], as far as it speaks of arrivals and states."""

    def test_states_move_in_the_same_way(self):
        for kind in 'ab':
            arrival = [(kind, 1)]
            self.same(state_after(arrival), (kind, 1))
            for count in [1, 2, 7, LARGEST, 10 ** 39]:
                self.same(state_after(arrival, (kind, count)), (kind, count + 1))
                self.same(state_after(arrival, ('c', count)), ('c', count - 1) if count > 1 else None)

    def test_the_distance_stays_or_falls_by_two(self):
        for items in all_items('abc', 3):
            runs = grouped(items)
            for one in STATES:
                for other in STATES:
                    before = distance(one, other)
                    for moment in range(1, len(items) + 1):
                        after = distance(state_at(runs, moment, one), state_at(runs, moment, other))
                        self.assertIn(before - after, [0, 2])
                        before = after

    def test_the_effect_is_a_shift_from_the_length_on(self):
        for items in all_items('abc', 4):
            runs = grouped(items)
            for kind in 'ad':
                start = number_of(state_after(runs, (kind, len(items) + 1)))
                for more in [1, 2, 3, LARGEST]:
                    wanted = (kind, start + more)
                    self.same(state_after(runs, (kind, len(items) + 1 + more)), wanted)


class Edges(ExactCase):
    def test_the_empty_sequence(self):
        self.same([state_after([]), state_at([], 0), waiting_at([], 0)], [None, None, []])
        self.same([empty_moments([]), most_waiting([])], [[0], (0, 0)])
        state = ('c', 2)
        self.same([state_after([], state), state_at([], 0, state)], [state, state])
        self.same([empty_moments([], state), most_waiting([], state)], [[], (2, 0)])
        self.refuses(InvalidPosition, state_at, [], 1)
        self.refuses(InvalidPosition, waiting_at, [], 1)

    def test_the_state_at_moment_0_and_at_the_end(self):
        for state in STATES:
            self.same(state_at(S, 0, state), state)
            self.same(state_at(S, 9, state), state_after(S, state))
        self.same(waiting_at(S, 0), [])
        self.same(waiting_at(S, 9), [(7, 7)])

    def test_both_ends_of_the_moments(self):
        for moment in [-1, 10, LARGEST, -LARGEST]:
            self.refuses(InvalidPosition, state_at, S, moment)
            self.refuses(InvalidPosition, waiting_at, S, moment)
        end = 400 * LARGEST
        self.same([state_at(LONGEST, end), waiting_at(LONGEST, end)], [None, []])
        self.same([state_at(LONGEST, end - 1), waiting_at(LONGEST, end - 1)], [
            ('a', 1), [(399 * LARGEST - 1, 399 * LARGEST - 1)]])
        self.refuses(InvalidPosition, state_at, LONGEST, end + 1)
        self.refuses(InvalidPosition, waiting_at, LONGEST, end + 1)

    def test_the_state_may_be_omitted_or_passed_by_keyword(self):
        for state in STATES:
            self.same(state_after(S, state=state), state_after(S, state))
            self.same(state_at(S, 5, state=state), state_at(S, 5, state))
            self.same(empty_moments(S, state=state), empty_moments(S, state))
            self.same(most_waiting(S, state=state), most_waiting(S, state))
        self.same([state_after(S, None), state_at(S, 5, None)], [state_after(S), state_at(S, 5)])
        self.same([empty_moments(S, None), most_waiting(S, None)], [empty_moments(S), most_waiting(S)])

    def test_nobody_waits_in_the_middle_of_a_run_and_at_its_end(self):
        self.same(empty_moments([('a', 2), ('b', 2)]), [0, 4])
        self.same(empty_moments([('a', 2), ('b', 5)]), [0, 4])
        self.same(empty_moments([('a', 2), ('b', 1)]), [0])
        self.same(empty_moments([('a', 1)], ('a', 1)), [])
        self.same(empty_moments([('a', 1)], ('b', 1)), [1])

    def test_the_first_moment_of_the_most(self):
        self.same(most_waiting([('a', 2), ('b', 4)]), (2, 2))
        self.same(most_waiting([('a', 2), ('b', 5)]), (3, 7))
        self.same(most_waiting([('a', 4)], ('b', 2)), (2, 0))
        self.same(most_waiting([('a', 5)], ('b', 2)), (3, 5))
        self.same(most_waiting([('a', 1)], ('a', 2)), (3, 1))


class LargeNumbers(ExactCase):
    def test_all_counts_multiplied(self):
        for factor in [2, 10 ** 29]:
            for items in all_items('abc', 5):
                runs = grouped(items)
                large = multiplied(runs, factor)
                for state in [None, ('a', 2), ('d', 3)]:
                    start = times(state, factor)
                    most, moment = most_waiting(runs, state)
                    self.same(state_after(large, start), times(state_after(runs, state), factor))
                    self.same(most_waiting(large, start), (most * factor, moment * factor))
                    self.same(empty_moments(large, start), [at * factor for at in empty_moments(runs, state)])
                end = len(items)
                wanted = [(first * factor, last * factor + factor - 1) for first, last in waiting_at(runs, end)]
                self.same(waiting_at(large, end * factor), wanted)

    def test_400_runs_that_cancel(self):
        self.same(state_after(LONGEST), None)
        self.same(empty_moments(LONGEST), [2 * at * LARGEST for at in range(201)])
        self.same(most_waiting(LONGEST), (LARGEST, LARGEST))
        self.same(state_at(LONGEST, 200 * LARGEST + 5), ('a', 5))
        self.same(waiting_at(LONGEST, 201 * LARGEST + 5), [(200 * LARGEST + 5, 201 * LARGEST - 1)])

    def test_400_runs_that_grow(self):
        runs = [('a', LARGEST), ('b', 1)] * 200
        total = 200 * (LARGEST + 1)
        self.same(state_after(runs), ('a', 200 * LARGEST - 200))
        self.same(most_waiting(runs), (200 * LARGEST - 199, total - 1))
        self.same(empty_moments(runs), [0])
        starts = [at * (LARGEST + 1) for at in range(200)]
        ranges = [(start, start + LARGEST - 1) for start in starts]
        self.same(waiting_at(runs, total), [(200, LARGEST - 1)] + ranges[1:])
        self.same(waiting_at(runs, 2), [(0, 1)])

    def test_large_states(self):
        large = ('c', 10 ** 39)
        self.same(state_after(LONGEST, large), ('c', 10 ** 39 - 400 * LARGEST))
        self.same(state_at(LONGEST, 7, large), ('c', 10 ** 39 - 7))
        self.same(empty_moments(LONGEST, large), [])
        self.same(most_waiting(LONGEST, large), (10 ** 39, 0))
        self.same(state_after(LONGEST, ('a', 10 ** 39)), ('a', 10 ** 39))
        self.same(most_waiting(LONGEST, ('a', 10 ** 39)), (10 ** 39 + LARGEST, LARGEST))
        self.same(empty_moments(LONGEST, ('c', 400 * LARGEST)), [400 * LARGEST])
        self.same(state_after(LONGEST, ('c', 400 * LARGEST - 1)), ('b', 1))


class WrongInputs(ExactCase):
    def test_sequences(self):
        for value in WRONG_SEQUENCES:
            for function in [state_after, empty_moments, most_waiting]:
                self.refuses(InvalidSequence, function, value)
            for function in [state_at, waiting_at]:
                self.refuses(InvalidSequence, function, value, 0)

    def test_moments(self):
        for value in WRONG_NUMBERS:
            for sequence in [S, []]:
                self.refuses(InvalidPosition, state_at, sequence, value)
                self.refuses(InvalidPosition, waiting_at, sequence, value)

    def test_states(self):
        for value in WRONG_STATES:
            for sequence in [S, []]:
                for function in [state_after, empty_moments, most_waiting]:
                    self.refuses(InvalidState, function, sequence, value)
                self.refuses(InvalidState, state_at, sequence, 0, value)

    def test_the_order_of_the_errors(self):
        bad = [('a', 1), ('a', 1)]
        for state in [True, ('a', 0), ('A', 1), 'a']:
            for function in [state_after, empty_moments, most_waiting]:
                self.refuses(InvalidSequence, function, bad, state)
            for moment in [None, True, -1, 10]:
                self.refuses(InvalidSequence, state_at, bad, moment, state)
                self.refuses(InvalidPosition, state_at, S, moment, state)
                self.refuses(InvalidPosition, state_at, S, moment, ('a', 1))
                self.refuses(InvalidSequence, waiting_at, bad, moment)
            self.refuses(InvalidSequence, state_at, bad, 0, state)
            self.refuses(InvalidState, state_at, S, 0, state)


class KindsOfValues(ExactCase):
    def test_lists_and_tuples_at_every_level(self):
        for value in shapes(S):
            self.same(self.unchanged(state_after, value), ('c', 1))
            self.same(self.unchanged(waiting_at, value, 8), [(6, 7)])
            for state in [('c', 2), ['c', 2]]:
                self.same(self.unchanged(state_after, value, state), ('c', 3))
                self.same(self.unchanged(state_at, value, 0, state), ('c', 2))
                self.same(self.unchanged(state_at, value, 8, state), ('c', 4))
                self.same(self.unchanged(empty_moments, value, state), [2, 4])
                self.same(self.unchanged(most_waiting, value, state), (4, 8))
        for empty in [[], ()]:
            self.same(state_after(empty, ['c', 2]), ('c', 2))
            self.same(most_waiting(empty, ['c', 2]), (2, 0))

    def test_returned_lists_are_new(self):
        self.gives_new_lists(
            lambda: waiting_at(S, 8), lambda: waiting_at(S, 0), lambda: empty_moments(S),
            lambda: empty_moments([]), lambda: empty_moments(S, ('c', 2)))

    def test_values_that_are_changed_are_judged_anew(self):
        runs = [['a', 3], ['b', 1]]
        state = ['a', 1]
        self.same(state_after(runs, state), ('a', 3))
        state[0] = 'c'
        self.same(state_after(runs, state), ('a', 1))
        runs[1][1] = 9
        self.same(state_after(runs, state), ('b', 7))
        state[1] = 0
        self.refuses(InvalidState, state_after, runs, state)
        runs[1][0] = 'a'
        self.refuses(InvalidSequence, state_after, runs, state)


if __name__ == '__main__':
    unittest.main()
