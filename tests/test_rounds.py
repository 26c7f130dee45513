"""The functions of unlikepairs.rounds: [13], [13a] to [13d], with [2], [3], [5] and [7]."""

import unittest

from tests.support import (
    LARGEST, LONG_SEQUENCES, S, WRONG_NUMBERS, WRONG_SEQUENCES, WRONG_STATES, ExactCase, all_items, effect, grouped,
    mixed_items, multiplied, number_of, shapes, times, waiting_items)
from unlikepairs.errors import InvalidNumber, InvalidSequence, InvalidState, TooLong
from unlikepairs.rounds import after_rounds, growing_from, growth_of, return_of
from unlikepairs.waiting import state_after

ABC = [('a', 1), ('b', 1), ('c', 1)]
AAB = [('a', 2), ('b', 1)]
W = [('b', 3), ('c', 2), ('a', 3)]
BAD = [('a', 1), ('a', 1)]
LONG = [('a', 401)]
HUGE = 10 ** 39
STATES = [None] + [(kind, count) for kind in 'abd' for count in [1, 2, 3, 6]]


def growth_by_count(items):
    """[13], by counting."""
    for kind in sorted(set(items)):
        if 2 * items.count(kind) > len(items):
            return (kind, 2 * items.count(kind) - len(items))
    return None


def first_return(states):
    """[13c], among the states after 0, 1, 2, ... rounds."""
    for start, state in enumerate(states):
        if state in states[start + 1:]:
            return (start, states.index(state, start + 1) - start)
    raise AssertionError('no state comes again')


def growing_since(states, growth):
    """[13d], among the states after 0, 1, 2, ... rounds, the last of which must already grow."""
    kind, number = growth
    grows = [(state is None or state[0] == kind) and following == (kind, number_of(state) + number)
             for state, following in zip(states, states[1:])]
    if not all(grows[-3:]):
        raise AssertionError('the last states do not grow')
    return max([0] + [at + 1 for at, each in enumerate(grows) if not each])


def one_after_the_other(items, state, rounds):
    """The states after 0, 1, 2, ... rounds, with items that are kept one by one."""
    states = [state]
    for each in range(rounds):
        states.append(effect(items, states[-1]))
    return states


class Examples(ExactCase):
    def test_after_rounds(self):
        self.same(after_rounds([('a', 1), ('b', 1), ('c', 1)], 10 ** 30 - 1), ('c', 1))
        self.same([after_rounds(W, 1, ('a', 1)), after_rounds(W, 2, ('a', 1)), after_rounds(W, 1, ('a', 2))],
                  [('a', 3), ('a', 1), ('a', 2)])

    def test_growth_of(self):
        self.same([growth_of([('a', 2), ('b', 1)]), growth_of([('a', 1), ('b', 1)])], [('a', 1), None])

    def test_return_of(self):
        self.same([return_of(ABC), return_of(ABC, ('d', 4)), return_of([('a', 2), ('b', 1)])], [(0, 2), (2, 2), None])
        self.same([after_rounds(ABC, rounds, ('d', 4)) for rounds in range(5)],
                  [('d', 4), ('d', 1), None, ('c', 1), None])

    def test_growing_from(self):
        self.same(growing_from([('a', 2), ('b', 1)], ('b', 5)), 5)
        self.same([after_rounds(AAB, rounds, ('b', 5)) for rounds in range(8)],
                  [('b', 5), ('b', 4), ('b', 3), ('b', 2), ('b', 1), None, ('a', 1), ('a', 2)])


class OneByOne(ExactCase):
    """Small rounds, compared with items that are kept one by one."""

    def check(self, items, state, rounds):
        runs = grouped(items)
        states = one_after_the_other(items, state, rounds)
        growth = growth_by_count(items)
        self.same(growth_of(runs), growth)
        self.same([after_rounds(runs, each, state) for each in range(rounds + 1)], states)
        if growth is None:
            self.same([return_of(runs, state), growing_from(runs, state)], [first_return(states), None])
        else:
            self.same([return_of(runs, state), growing_from(runs, state)], [None, growing_since(states, growth)])

    def test_small_rounds(self):
        for items in all_items('abc', 5):
            for state in STATES:
                self.check(items, state, 14)

    def test_four_kinds(self):
        for items in all_items('abcd', 4):
            for state in [None, ('a', 3), ('e', 7)]:
                self.check(items, state, 14)

    def test_longer_rounds(self):
        for step in range(1, 16):
            for kinds in ['ab', 'abc', 'aabcd', 'aaab', 'aaabcd']:
                items = mixed_items(kinds, 12 + step, step)
                for state in [None, ('a', 9), ('c', 20), ('e', 30)]:
                    self.check(items, state, 60)

    def test_rounds_that_are_turned(self):
        """The same items from another one on, so that their number stays and the waiting items change."""
        for text in ['aabbacbcc', 'aaabbbaccc', 'aabaabbacbab', 'abcabcddabdd']:
            for at in range(len(text)):
                for state in [None, ('a', 4), ('b', 11), ('d', 2), ('e', 13)]:
                    self.check(list(text[at:] + text[:at]), state, 40)


class Multiplied(ExactCase):
    """With all counts and the state multiplied, the states are multiplied, too."""

    def test_up_to_400_items(self):
        for items in all_items('abc', 5):
            runs = grouped(items)
            large = multiplied(runs, 80)
            growth = growth_of(runs)
            self.same(growth_of(large), times(growth, 80))
            for state in [None, ('a', 2), ('b', 7), ('d', 3)]:
                start = times(state, 80)
                for rounds in [0, 1, 2, 5, LARGEST - 1, LARGEST]:
                    self.same(after_rounds(large, rounds, start), times(after_rounds(runs, rounds, state), 80))
                self.same(return_of(large, start), return_of(runs, state))
                self.same(growing_from(large, start), growing_from(runs, state))

    def test_large_states(self):
        """While more items wait than a round has, each round changes their number alike."""
        for items in all_items('abc', 4):
            runs = grouped(items)
            for kind in 'ad':
                change = 2 * items.count(kind) - len(items)
                for rounds in [LARGEST, LARGEST - 7, 5]:
                    self.same(after_rounds(runs, rounds, (kind, HUGE)), (kind, HUGE + rounds * change))
                if change >= 0:
                    self.same(return_of(runs, (kind, HUGE)), (0, 1) if change == 0 else None)
                    self.same(growing_from(runs, (kind, HUGE)), None if change == 0 else 0)
                else:
                    self.check_fall(items, kind, -change)

    def check_fall(self, items, kind, fall):
        runs = grouped(items)
        for many in [1, 2, LARGEST - 9, LARGEST // 2]:
            for number in range(len(items), len(items) + fall):
                low = (kind, number)
                high = (kind, number + many * fall)
                states = one_after_the_other(items, low, 16)
                self.same([after_rounds(runs, many + more, high) for more in range(10)], states[:10])
                growth = growth_of(runs)
                if growth is None:
                    start, period = first_return(states)
                    self.same(return_of(runs, high), (many + start, period))
                    self.same(growing_from(runs, high), None)
                else:
                    self.same(return_of(runs, high), None)
                    self.same(growing_from(runs, high), many + growing_since(states, growth))


class LongRounds(ExactCase):
    """Rounds of up to 400 items, compared with the state after each single round."""

    def check(self, items, state, rounds):
        runs = grouped(items)
        states = [state]
        for each in range(rounds):
            states.append(state_after(runs, states[-1]))
        for each in [0, 1, 2, 3, rounds // 3, rounds - 1, rounds]:
            self.same(after_rounds(runs, each, state), states[each])
        growth = growth_of(runs)
        self.same(growth, growth_by_count(items))
        if growth is None:
            start, period = first_return(states)
            self.same([return_of(runs, state), growing_from(runs, state)], [(start, period), None])
            for large in [LARGEST, LARGEST - 1]:
                self.same(after_rounds(runs, large, state), states[start + (large - start) % period])
        else:
            since = growing_since(states, growth)
            self.same([return_of(runs, state), growing_from(runs, state)], [None, since])
            for large in [LARGEST, LARGEST - 1]:
                number = number_of(states[since]) + (large - since) * growth[1]
                self.same(after_rounds(runs, large, state), (growth[0], number))

    def test_mixed_rounds(self):
        for step in range(1, 4):
            for kinds in ['abc', 'aabc', 'aaabb']:
                for length in [399, 400]:
                    for state in [None, ('b', 1000), ('e', 399)]:
                        self.check(mixed_items(kinds, length, step), state, 200)

    def test_slow_growth(self):
        """A growth of 1 or 2 from as many waiting items of another kind as a round has."""
        for items in [['b', 'a'] * 199 + ['a'], ['a', 'b'] * 199 + ['a', 'a'], ['b'] * 199 + ['a'] * 200,
                      ['c', 'a', 'a', 'b'] * 99 + ['a', 'b', 'a']]:
            for state in [None, ('b', len(items)), ('a', 1), ('c', 900)]:
                self.check(items, state, 1000)

    def test_slow_fall(self):
        for items in [['b', 'a', 'a', 'c'] * 99 + ['a', 'b', 'c'], ['a'] * 199 + ['b'] * 199 + ['c'],
                      ['a'] * 199 + ['b', 'c'] * 100, ['a'] * 199 + ['b'] * 199 + ['c', 'd']]:
            for state in [None, ('a', len(items)), ('b', 398), ('e', 2000)]:
                self.check(items, state, 500)

    def test_half_of_the_items(self):
        for items in [['a'] * 200 + ['b'] * 200, ['b', 'c'] * 100 + ['a'] * 200, ['a', 'b', 'a', 'c'] * 100]:
            for state in [None, ('a', 1), ('a', 399), ('a', 5000), ('b', 399), ('e', 2000)]:
                self.check(items, state, 100)


class Guarantees(ExactCase):
    """[7], as far as it speaks of rounds."""

    def test_states_come_again_after_one_or_two_rounds(self):
        for items in all_items('abc', 6):
            runs = grouped(items)
            for state in [None, ('a', 1), ('b', 4), ('d', 9), ('a', HUGE)]:
                found = return_of(runs, state)
                self.assertEqual(found is None, growth_of(runs) is not None)
                self.assertEqual(growing_from(runs, state) is None, growth_of(runs) is None)
                if found is not None:
                    self.assertIn(found[1], [2] if len(items) % 2 else [1, 2])

    def test_every_state_becomes_one_of_the_growing_kind(self):
        for items in all_items('abc', 5):
            runs = grouped(items)
            growth = growth_of(runs)
            if growth is not None:
                for state in [None, ('a', 4), ('b', LARGEST - 30), ('d', 9)]:
                    kind, number = after_rounds(runs, LARGEST, state)
                    self.same(kind, growth[0])
                    self.same(state_after(runs, (kind, number)), (kind, number + growth[1]))

    def test_rounds_may_be_divided(self):
        for items in all_items('abc', 5):
            runs = grouped(items)
            for state in [None, ('a', 4), ('d', LARGEST - 3)]:
                for first, second in [(3, LARGEST - 3), (LARGEST // 2, LARGEST // 2), (LARGEST - 2, 2), (1, 1)]:
                    self.same(after_rounds(runs, second, after_rounds(runs, first, state)),
                              after_rounds(runs, first + second, state))


class Edges(ExactCase):
    def test_the_empty_round(self):
        for state in [None, ('a', 1), ('a', HUGE)]:
            for rounds in [0, 1, 2, LARGEST]:
                self.same(after_rounds([], rounds, state), state)
            self.same([return_of([], state), growing_from([], state)], [(0, 1), None])
        self.same([after_rounds([], 5), growth_of([]), return_of([]), growing_from([])], [None, None, (0, 1), None])

    def test_one_run(self):
        for count in [1, 400]:
            runs = [('a', count)]
            self.same(growth_of(runs), ('a', count))
            self.same([after_rounds(runs, 0), after_rounds(runs, LARGEST)], [None, ('a', count * LARGEST)])
            self.same(after_rounds(runs, LARGEST, ('b', count)), ('a', count * (LARGEST - 1)))
            self.same(after_rounds(runs, LARGEST, ('b', count * LARGEST)), None)
            self.same(after_rounds(runs, LARGEST, ('b', count * LARGEST + 1)), ('b', 1))
            self.same([return_of(runs), return_of(runs, ('b', 1))], [None, None])
            self.same([growing_from(runs), growing_from(runs, ('a', 7)), growing_from(runs, ('b', 1))], [0, 0, 1])
            self.same(growing_from(runs, ('b', count * LARGEST)), LARGEST)
            self.same(growing_from(runs, ('b', count * LARGEST + 1)), LARGEST + 1)

    def test_0_and_10_30_rounds(self):
        for runs in [[], ABC, AAB, W, [('a', 400)], S]:
            for state in STATES + [('a', HUGE), ('d', HUGE)]:
                self.same(after_rounds(runs, 0, state), state)
        self.same(after_rounds(ABC, LARGEST), None)
        self.same(after_rounds(ABC, LARGEST, ('d', HUGE)), ('d', HUGE - 3 * LARGEST))
        self.same(after_rounds(ABC, LARGEST, ('d', 3 * LARGEST)), None)
        self.same(after_rounds(AAB, LARGEST), ('a', LARGEST))
        self.same(after_rounds(AAB, LARGEST, ('b', LARGEST - 5)), ('a', 5))
        self.same(after_rounds(AAB, LARGEST, ('b', LARGEST)), None)
        self.same(after_rounds(AAB, LARGEST, ('a', HUGE)), ('a', HUGE + LARGEST))
        self.same(after_rounds(AAB, LARGEST, ('c', 3 * LARGEST)), None)
        for runs in [[], ABC, AAB]:
            for rounds in [-1, LARGEST + 1, -LARGEST, HUGE]:
                self.refuses(InvalidNumber, after_rounds, runs, rounds)

    def test_400_runs_and_items(self):
        runs = [('a', 1), ('b', 1)] * 200
        self.same([after_rounds(runs, LARGEST), growth_of(runs), return_of(runs)], [None, None, (0, 1)])
        self.same([return_of(runs, ('a', HUGE)), return_of(runs, ('c', 400))], [(0, 1), (1, 1)])
        self.same(return_of(runs, ('c', 401)), (2, 1))
        self.same(return_of(runs, ('c', HUGE)), (HUGE // 400, 1))
        self.same(growth_of(runs[:399]), ('a', 1))
        self.same(after_rounds(runs[:399], LARGEST), ('a', LARGEST))
        self.same(growth_of([('a', 201), ('b', 199)]), ('a', 2))
        self.same(growth_of([('a', 200), ('b', 200)]), None)

    def test_401_items(self):
        for runs in LONG_SEQUENCES:
            self.refuses(TooLong, after_rounds, runs, 0)
            for function in [growth_of, return_of, growing_from]:
                self.refuses(TooLong, function, runs)

    def test_half_of_the_items(self):
        runs = [('b', 1), ('c', 1), ('a', 2)]
        self.same(growth_of(runs), None)
        self.same([return_of(runs, ('a', number)) for number in [1, 2, 4, LARGEST, HUGE]], [(0, 1)] * 5)
        self.same(after_rounds(runs, LARGEST, ('a', HUGE)), ('a', HUGE))
        self.same(growth_of([('b', 2), ('a', 3)]), ('a', 1))
        self.same(growth_of([('a', 1), ('b', 1), ('a', 1), ('c', 2), ('a', 1)]), None)

    def test_odd_and_even_lengths(self):
        self.same([return_of([('a', 1), ('b', 1)]), return_of([('a', 1), ('b', 1)], ('c', 1))], [(0, 1), (1, 1)])
        self.same([return_of(W, ('a', 1)), return_of(W, ('a', 2))], [(0, 2), (0, 1)])
        self.same([return_of(ABC, ('c', 1)), return_of(ABC, ('b', 1))], [(0, 2), (1, 2)])
        whole = (HUGE - 1) // 3
        self.same(return_of(ABC, ('d', HUGE)), (whole + 1, 2))

    def test_none_counts_as_0_items_of_the_growing_kind(self):
        self.same([growing_from(AAB), growing_from(AAB, None), growing_from(AAB, ('a', 3))], [0, 0, 0])
        self.same([growing_from(AAB, ('b', 1)), growing_from(AAB, ('c', 3)), growing_from(AAB, ('c', 4))], [1, 1, 2])

    def test_a_state_of_the_growing_kind_may_not_grow_yet(self):
        runs = [('b', 2), ('c', 1), ('a', 4)]
        states = [after_rounds(runs, rounds, ('a', 1)) for rounds in range(4)]
        self.same(states, one_after_the_other(['b', 'b', 'c', 'a', 'a', 'a', 'a'], ('a', 1), 3))
        self.same([states, growing_from(runs, ('a', 1))], [[('a', 1), ('a', 4), ('a', 5), ('a', 6)], 1])

    def test_large_states(self):
        self.same(growing_from(AAB, ('b', HUGE)), HUGE)
        self.same(growing_from(AAB, ('a', HUGE)), 0)
        self.same(growing_from(AAB, ('c', 3 * HUGE)), HUGE)
        self.same([return_of(AAB, ('b', HUGE)), growing_from(ABC, ('d', HUGE))], [None, None])

    def test_the_state_may_be_omitted_or_passed_by_keyword(self):
        for runs in [ABC, AAB, W]:
            for state in STATES:
                self.same(after_rounds(runs, 3, state=state), after_rounds(runs, 3, state))
                self.same(return_of(runs, state=state), return_of(runs, state))
                self.same(growing_from(runs, state=state), growing_from(runs, state))
            self.same([after_rounds(runs, 3), return_of(runs), growing_from(runs)],
                      [after_rounds(runs, 3, None), return_of(runs, None), growing_from(runs, None)])


class WrongInputs(ExactCase):
    def test_sequences(self):
        for value in WRONG_SEQUENCES:
            self.refuses(InvalidSequence, after_rounds, value, 0)
            for function in [growth_of, return_of, growing_from]:
                self.refuses(InvalidSequence, function, value)

    def test_numbers_of_rounds(self):
        for value in WRONG_NUMBERS:
            for runs in [[], ABC, AAB]:
                self.refuses(InvalidNumber, after_rounds, runs, value)

    def test_states(self):
        for value in WRONG_STATES:
            for runs in [[], ABC, AAB]:
                self.refuses(InvalidState, after_rounds, runs, 0, value)
                self.refuses(InvalidState, after_rounds, runs, LARGEST, value)
                self.refuses(InvalidState, return_of, runs, value)
                self.refuses(InvalidState, growing_from, runs, value)

    def test_the_order_of_the_errors(self):
        for state in [None, True, ('a', 0), 'a']:
            for rounds in [None, True, -1, LARGEST + 1, '0', 0]:
                self.refuses(InvalidSequence, after_rounds, BAD, rounds, state)
                self.refuses(TooLong, after_rounds, LONG, rounds, state)
                if rounds != 0:
                    self.refuses(InvalidNumber, after_rounds, ABC, rounds, state)
            for function in [return_of, growing_from]:
                self.refuses(InvalidSequence, function, BAD, state)
                self.refuses(TooLong, function, LONG, state)
        for function in [growth_of, return_of, growing_from]:
            self.refuses(InvalidSequence, function, [('a', 401), ('a', 1)])


class KindsOfValues(ExactCase):
    def test_lists_and_tuples_at_every_level(self):
        for value in shapes(W):
            self.same(self.unchanged(growth_of, value), None)
            for state in [('a', 1), ['a', 1]]:
                self.same(self.unchanged(after_rounds, value, 0, state), ('a', 1))
                self.same(self.unchanged(after_rounds, value, 1, state), ('a', 3))
                self.same(self.unchanged(after_rounds, value, LARGEST, state), ('a', 1))
                self.same(self.unchanged(return_of, value, state), (0, 2))
                self.same(self.unchanged(growing_from, value, state), None)
        for value in shapes(AAB):
            self.same(self.unchanged(growth_of, value), ('a', 1))
            for state in [('b', 5), ['b', 5]]:
                self.same(self.unchanged(after_rounds, value, 0, state), ('b', 5))
                self.same(self.unchanged(after_rounds, value, 7, state), ('a', 2))
                self.same(self.unchanged(growing_from, value, state), 5)
                self.same(self.unchanged(return_of, value, state), None)
        for empty in [[], ()]:
            self.same(self.unchanged(after_rounds, empty, 7, ['b', 5]), ('b', 5))

    def test_results_may_be_passed_on(self):
        state = after_rounds([('a', 400)], LARGEST, ('a', 10 ** 40 - 1))
        for each in range(20):
            state = after_rounds([('a', 400)], LARGEST, state)
        self.same(state, ('a', 10 ** 40 - 1 + 21 * 400 * LARGEST))
        large = waiting_items('b', 10 ** 45)
        self.same([growing_from(AAB, large), after_rounds(AAB, 1, large)], [10 ** 45, ('b', 10 ** 45 - 1)])

    def test_values_that_are_changed_are_judged_anew(self):
        runs = [['a', 2], ['b', 1]]
        state = ['b', 5]
        self.same([growth_of(runs), growing_from(runs, state)], [('a', 1), 5])
        state[1] = 6
        self.same(growing_from(runs, state), 6)
        runs[1][1] = 2
        self.same([growth_of(runs), growing_from(runs, state), return_of(runs, state)], [None, None, (0, 1)])
        state[1] = 0
        self.refuses(InvalidState, return_of, runs, state)


if __name__ == '__main__':
    unittest.main()
