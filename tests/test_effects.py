"""The functions of unlikepairs.effects: [12], [12a] to [12e], with [2], [3], [5] and [7]."""

import unittest

from tests.support import (
    LARGEST, LONG_SEQUENCES, S, WRONG_KIND_LISTS, WRONG_KINDS, WRONG_SEQUENCES, WRONG_STATES, ExactCase, all_items,
    effect, grouped, mixed_items, multiplied, number_of, shapes, times, waiting_items)
from unlikepairs.effects import effect_of, effect_on, have_same_effect, state_that_differs, states_before
from unlikepairs.errors import (
    InvalidEffects, InvalidKind, InvalidKinds, InvalidSequence, InvalidState, SameEffect, TooLong)
from unlikepairs.waiting import state_after

ABC = [('a', 1), ('b', 1), ('c', 1)]
BAD = [('a', 1), ('a', 1)]
HUGE = 10 ** 39
LONG = [('a', 401)]
TWELVE = list('abcdefghijkl')
LETTERS = 'abcdefghijklmnopqrstuvwxyz'
THREE_LETTERS = [one + two + three for one in LETTERS for two in LETTERS for three in LETTERS]


def effects_by_definition(items, kind):
    """The list of [12a]: from the length + 3 on, where the effect is a shift for sure, least goes down step by step."""
    effects = [effect(items, waiting_items(kind, number)) for number in range(len(items) + 4)]
    least = len(effects) - 1
    while least > 0 and is_one_less(effects[least - 1], effects[least], kind):
        least -= 1
    return effects[:least + 1]


def is_one_less(state, other, kind):
    """Whether these are r and r + 1 waiting items of the kind, for some r from 0 on."""
    return other is not None and other[0] == kind and state == waiting_items(kind, other[1] - 1)


def effect_everywhere(items, kinds, most):
    """The effects on all states of the kinds of at most so many items."""
    states = [None] + [(kind, number) for kind in kinds for number in range(1, most + 1)]
    return {state: effect(items, state) for state in states}


def before_one_by_one(items, state, kinds, most):
    """The list of [12e], for states of at most so many items."""
    states = [None] + [(kind, number) for kind in kinds for number in range(1, most + 1)]
    return [each for each in states if effect(items, each) == state]


class Examples(ExactCase):
    def test_effect_of(self):
        self.same(effect_of(ABC, 'a'), [('c', 1), None])
        self.same(effect_of(ABC, 'd'), [('c', 1), None, ('c', 1), None])

    def test_effect_on(self):
        self.same(effect_on([('c', 1), None], 'a', ('a', 9)), ('a', 8))

    def test_have_same_effect(self):
        bca, cba = [('b', 1), ('c', 1), ('a', 1)], [('c', 1), ('b', 1), ('a', 1)]
        ab, ba = [('a', 1), ('b', 1)], [('b', 1), ('a', 1)]
        self.same([have_same_effect(bca, cba), have_same_effect(ab, ba)], [True, False])
        self.refuses(SameEffect, state_that_differs, bca, cba)
        state = state_that_differs(ab, ba)
        self.assertNotEqual(state_after(ab, state), state_after(ba, state))

    def test_states_before(self):
        self.same(states_before(ABC, None, ['a', 'b', 'd']), [('a', 1), ('b', 1), ('d', 1), ('d', 3)])


class EffectsOneByOne(ExactCase):
    """[12a] and [12b], compared with items that are kept one by one."""

    def check(self, items, kind):
        runs = grouped(items)
        effects = effect_of(runs, kind)
        self.same(effects, effects_by_definition(items, kind))
        for number in range(len(items) + 4):
            state = waiting_items(kind, number)
            self.same(effect_on(effects, kind, state), effect(items, state))
        for number in [LARGEST, HUGE]:
            self.same(effect_on(effects, kind, (kind, number)), state_after(runs, (kind, number)))

    def test_small_sequences(self):
        for items in all_items('abc', 6):
            for kind in 'acd':
                self.check(items, kind)

    def test_longer_sequences(self):
        for step in range(1, 20):
            for kinds in ['ab', 'abc', 'aabcd', 'aaab']:
                items = mixed_items(kinds, 20 + step, step)
                for kind in 'ade':
                    self.check(items, kind)

    def test_all_counts_multiplied(self):
        for items in all_items('abc', 4):
            for kind in 'ad':
                self.check([item for item in items for each in range(6)], kind)

    def test_multiplied_states(self):
        for items in all_items('abc', 5):
            runs = grouped(items)
            for kind in 'ad':
                effects = effect_of(multiplied(runs, 80), kind)
                for number in range(len(items) + 3):
                    state = waiting_items(kind, number)
                    self.same(effect_on(effects, kind, times(state, 80)), times(effect(items, state), 80))


class SameEffects(ExactCase):
    """[12c] and [12d], compared with items that are kept one by one."""

    def check(self, first, second, same):
        runs, others = grouped(first), grouped(second)
        self.same(have_same_effect(runs, others), same)
        if same:
            self.refuses(SameEffect, state_that_differs, runs, others)
            return
        state = state_that_differs(runs, others)
        self.assertTrue(state is None or type(state) is tuple)
        self.assertNotEqual(effect(first, state), effect(second, state))
        self.same(state_that_differs(runs, others), state)

    def check_renamed(self, first, second, names, same):
        self.check([names[kind] for kind in first], [names[kind] for kind in second], same)

    def test_small_sequences(self):
        small = all_items('abc', 4)
        effects = [effect_everywhere(items, 'abcd', 6) for items in small]
        for first, one in zip(small, effects):
            for second, other in zip(small, effects):
                self.check(first, second, one == other)

    def test_five_and_six_items(self):
        for counts in ['aabbc', 'aaabbc', 'aabbcc']:
            small = [items for items in all_items('abc', len(counts)) if sorted(items) == list(counts)]
            effects = [effect_everywhere(items, 'abcd', 8) for items in small]
            for first, one in zip(small, effects):
                for second, other in zip(small, effects):
                    self.check(first, second, one == other)

    def test_sequences_that_differ_on_other_kinds_only(self):
        for first, second, states in [
                ('bbaaca', 'acbbaa', [('d', 2), ('d', 4)]), ('ab', 'ba', [('c', 1), ('d', 1)]),
                ('aaaaba', 'aaaaab', [('c', 5), ('d', 5)])]:
            one, other = [effect_everywhere(items, 'abcd', 8) for items in [first, second]]
            self.same([state for state in one if one[state] != other[state]], states)
            self.check(first, second, False)

    def test_sequences_that_differ_on_a_kind_that_occurs_only(self):
        one, other = [effect_everywhere(items, 'abcd', 8) for items in ['bccac', 'accbc']]
        self.same([state for state in one if one[state] != other[state]], [('a', 1), ('b', 1)])
        self.check('bccac', 'accbc', False)
        one, other = [effect_everywhere(items, 'abcd', 8) for items in ['ccbbab', 'acbbcb']]
        self.same([state for state in one if one[state] != other[state]], [None, ('a', 2)])
        self.check('ccbbab', 'acbbcb', False)

    def test_whatever_the_kinds_are_called(self):
        for kinds in [['a', 'b', 'c'], ['aaa', 'aab', 'aac'], ['aaaaaaaa', 'a', 'aa'], ['z', 'zz', 'zzzzzzzz']]:
            names = dict(zip('abc', kinds))
            self.check_renamed('bbaaca', 'acbbaa', names, False)
            self.check_renamed('ab', 'ba', names, False)
            self.check_renamed('bca', 'cba', names, True)
            self.check_renamed('bccac', 'accbc', names, False)

    def test_sequences_that_differ_on_almost_400_items_only(self):
        first, second = ['a'] * 398 + ['b', 'a'], ['a'] * 399 + ['b']
        self.check(first, second, False)
        for state in [None, ('a', 1), ('a', 399), ('b', 1), ('b', 399), ('c', 398), ('c', 400)]:
            self.same(state_after(grouped(first), state), state_after(grouped(second), state))
        self.same(state_that_differs(grouped(first), grouped(second))[1], 399)

    def test_other_lengths(self):
        self.check([], [], True)
        self.check([], ['a'], False)
        self.check(['a'] * 400, ['a'] * 399, False)
        self.check(['a'] * 400, ['a'] * 400, True)
        self.check(['a', 'b'] * 200, [], False)
        self.check(['a'] * 400, ['b'] * 400, False)

    def check_long(self, first, second, kinds):
        """A state that differs proves itself; without one, all states of the kinds are compared."""
        runs, others = grouped(first), grouped(second)
        same = have_same_effect(runs, others)
        self.check(first, second, same)
        if same:
            for state in [waiting_items(kind, number) for kind in kinds for number in range(401)]:
                self.same(state_after(runs, state), state_after(others, state))
        return same

    def test_400_items(self):
        found = []
        for step in range(1, 4):
            items = mixed_items('abcd', 400, step)
            self.check(items, items, True)
            for at in [0, 200, 398]:
                other = items[:at] + [items[at + 1], items[at]] + items[at + 2:]
                if other != items:
                    found.append(self.check_long(items, other, 'abcde'))
        self.assertIn(False, found)

    def test_two_neighbours_change_places(self):
        """a b and b a before a third kind lead every state to the same one."""
        for items in [['a', 'b', 'c'], ['c'] * 199 + ['a', 'b', 'c'] + ['d'] * 198]:
            at = items.index('a')
            other = items[:at] + ['b', 'a'] + items[at + 2:]
            self.same(self.check_long(items, other, 'abcde'), True)

    def test_400_kinds(self):
        for names in [THREE_LETTERS, THREE_LETTERS[::-1]]:
            first, second = names[:400], names[400:800]
            self.check(first, first, True)
            self.check(first, second, False)
            self.check(first, first[:398] + [first[399], first[398]], False)

    def test_400_kinds_in_another_order(self):
        kinds = THREE_LETTERS[:400]
        other = kinds[:200] + [kinds[201], kinds[200]] + kinds[202:]
        self.same(self.check_long(kinds, other, [kinds[0], kinds[200], kinds[201], kinds[202], 'a']), True)
        self.check(kinds, kinds[::-1], False)


class BeforeOneByOne(ExactCase):
    """[12e], compared with items that are kept one by one."""

    def test_small_sequences(self):
        states = [None] + [(kind, number) for kind in 'ad' for number in [1, 2, 4]]
        for items in all_items('abc', 5):
            for state in states:
                for kinds in [['a'], ['a', 'b', 'd'], ['c', 'e']]:
                    most = number_of(state) + len(items) + 2
                    self.same(states_before(grouped(items), state, kinds), before_one_by_one(items, state, kinds, most))

    def test_longer_sequences(self):
        for step in range(1, 12):
            for names in ['ab', 'abc', 'aabcd', 'aaab']:
                items = mixed_items(names, 18 + step, step)
                for state in [None, ('a', 1), ('a', 3), ('b', 2), ('d', 40), ('e', 1)]:
                    most = number_of(state) + len(items) + 2
                    wanted = before_one_by_one(items, state, 'abde', most)
                    self.same(states_before(grouped(items), state, list('abde')), wanted)

    def test_all_counts_multiplied(self):
        """The states before are multiplied, too, and other numbers than multiples may lead to the state."""
        for items in all_items('abc', 4):
            for state in [None, ('a', 1), ('c', 2)]:
                small = states_before(grouped(items), state, ['a', 'c', 'd'])
                large = states_before(multiplied(grouped(items), 100), times(state, 100), ['a', 'c', 'd'])
                self.same([each for each in large if number_of(each) % 100 == 0], [times(each, 100) for each in small])

    def test_large_states(self):
        for number in [401, LARGEST, HUGE]:
            for items in all_items('abc', 4):
                change = 2 * items.count('a') - len(items)
                wanted = [('a', number - change)]
                self.same(states_before(grouped(items), ('a', number), ['a', 'd']), wanted)
                self.same(states_before(grouped(items), ('d', number), ['a', 'd']), [('d', number + len(items))])
                self.same(states_before(grouped(items), ('d', number), ['a', 'b']), [])


class Guarantees(ExactCase):
    """[7], as far as it speaks of effects."""

    def test_the_shift_begins_at_the_length_at_the_latest(self):
        for items in all_items('abc', 6):
            for kind in 'ad':
                effects = effect_of(grouped(items), kind)
                self.assertLessEqual(len(effects), len(items) + 1)
                self.assertIn(effects[-1], [None, (kind, number_of(effects[-1]))])

    def test_the_list_of_a_long_sequence_has_up_to_401_items(self):
        for step in range(1, 6):
            for length in [399, 400]:
                items = mixed_items('abcd', length, step)
                for kind in 'ae':
                    effects = effect_of(grouped(items), kind)
                    self.assertLessEqual(len(effects), length + 1)
                    for number in [0, 1, 2, 50, 199, 200, length - 1, length, length + 1, LARGEST]:
                        state = waiting_items(kind, number)
                        self.same(effect_on(effects, kind, state), state_after(grouped(items), state))


class Edges(ExactCase):
    def test_the_empty_sequence(self):
        self.same([effect_of([], 'a'), effect_of([], 'abcdefgh')], [[None], [None]])
        self.same(have_same_effect([], []), True)
        self.refuses(SameEffect, state_that_differs, [], [])
        self.same(states_before([], None, ['a', 'b']), [None])
        self.same(states_before([], ('b', HUGE), ['a', 'b']), [('b', HUGE)])
        self.same(states_before([], ('c', 2), ['a', 'b']), [])

    def test_one_run(self):
        self.same(effect_of([('a', 3)], 'a'), [('a', 3)])
        self.same(effect_of([('a', 3)], 'b'), [('a', 3), ('a', 2), ('a', 1), None])
        self.same(effect_of([('a', 400)], 'a'), [('a', 400)])
        self.same(effect_of([('a', 400)], 'b'), [('a', number) for number in range(400, 0, -1)] + [None])
        self.same(states_before([('a', 3)], ('a', 3), ['a', 'b']), [None])
        self.same(states_before([('a', 3)], ('a', 2), ['a', 'b']), [('b', 1)])
        self.same(states_before([('a', 3)], ('a', 5), ['a', 'b']), [('a', 2)])
        self.same(states_before([('a', 400)], ('b', 1), ['a', 'b']), [('b', 401)])
        self.same(states_before([('a', 400)], None, TWELVE), [(kind, 400) for kind in TWELVE[1:]])

    def test_400_runs(self):
        runs = [('a', 1), ('b', 1)] * 200
        self.same(effect_of(runs, 'a'), [None])
        self.same(effect_of(runs, 'b'), [None])
        self.same(effect_of(runs, 'c'), [None, ('b', 1)] * 200 + [None])
        self.same(states_before(runs, None, ['c']), [None] + [('c', number) for number in range(2, 401, 2)])

    def test_400_and_401_items(self):
        for runs in LONG_SEQUENCES:
            self.refuses(TooLong, effect_of, runs, 'a')
            self.refuses(TooLong, have_same_effect, runs, [])
            self.refuses(TooLong, have_same_effect, [], runs)
            self.refuses(TooLong, state_that_differs, runs, [])
            self.refuses(TooLong, state_that_differs, [], runs)
            self.refuses(TooLong, states_before, runs, None, ['a'])
        for runs in [[('a', 400)], [('a', 399), ('b', 1)], [('a', 1), ('b', 1)] * 200]:
            self.same(effect_of(runs, 'a')[0], state_after(runs))
            self.same(have_same_effect(runs, runs), True)
            state = state_that_differs(runs, [])
            self.assertNotEqual(state_after(runs, state), state)
            self.assertIn(None, states_before(runs, state_after(runs), ['a']))

    def test_the_shift_begins_early_by_chance(self):
        self.same(effect_of([('b', 1), ('a', 1)], 'a'), [None])
        self.same(effect_of([('b', 2), ('a', 2)], 'a'), [None])
        self.same(effect_of([('b', 1), ('c', 1), ('a', 1)], 'a'), [('a', 1), None])

    def test_from_none_the_shift_may_begin_at_once(self):
        self.same(effect_of([('a', 1), ('b', 1)], 'a'), [None])
        self.same(effect_of([('a', 2), ('b', 1)], 'a'), [('a', 1)])

    def test_half_of_the_items(self):
        self.same(effect_of([('b', 2), ('c', 1), ('a', 3)], 'a'), [('a', 2), ('a', 3), ('a', 2)])
        self.same(effect_of([('b', 1), ('c', 1), ('a', 2)], 'a'), [('a', 2), ('a', 1)])

    def test_effects_of_any_list(self):
        """Lists that no sequence has are taken at their word."""
        effects = [('b', 7), None, ('a', HUGE), ('c', 3), ('a', 5)]
        self.same([effect_on(effects, 'a', waiting_items('a', number)) for number in range(7)],
                  [('b', 7), None, ('a', HUGE), ('c', 3), ('a', 5), ('a', 6), ('a', 7)])
        self.same(effect_on(effects, 'a', ('a', HUGE)), ('a', HUGE + 1))
        self.same([effect_on([None], 'a', None), effect_on([None], 'a', ('a', 3))], [None, ('a', 3)])
        self.same([effect_on([('a', 2)], 'a', None), effect_on([('a', 2)], 'a', ('a', 3))], [('a', 2), ('a', 5)])
        self.same(effect_on([('b', 2), None], 'a', ('a', 1)), None)

    def test_lists_of_400_to_402_effects(self):
        for length in [400, 401]:
            effects = [('b', 1)] * (length - 1) + [('a', 3)]
            self.same(effect_on(effects, 'a', None), ('b', 1))
            self.same(effect_on(effects, 'a', ('a', length - 2)), ('b', 1))
            self.same(effect_on(effects, 'a', ('a', length - 1)), ('a', 3))
            self.same(effect_on(effects, 'a', ('a', length)), ('a', 4))
        self.refuses(InvalidEffects, effect_on, [None] * 402, 'a', None)
        self.refuses(InvalidEffects, effect_on, (('a', 1),) * 402, 'a', None)

    def test_one_to_twelve_kinds(self):
        self.same(states_before([('m', 2)], None, TWELVE), [(kind, 2) for kind in TWELVE])
        self.same(states_before([('m', 2)], None, ['m']), [])
        self.same(states_before([('m', 2)], None, ['a', 'aa', 'abcdefgh', 'b']), [
            ('a', 2), ('aa', 2), ('abcdefgh', 2), ('b', 2)])


class WrongInputs(ExactCase):
    def test_sequences(self):
        for value in WRONG_SEQUENCES:
            self.refuses(InvalidSequence, effect_of, value, 'a')
            for function in [have_same_effect, state_that_differs]:
                self.refuses(InvalidSequence, function, value, ABC)
                self.refuses(InvalidSequence, function, ABC, value)
            self.refuses(InvalidSequence, states_before, value, None, ['a'])

    def test_kinds(self):
        for value in WRONG_KINDS:
            self.refuses(InvalidKind, effect_of, ABC, value)
            self.refuses(InvalidKind, effect_of, [], value)
            self.refuses(InvalidKind, effect_on, [None], value, None)

    def test_lists_of_kinds(self):
        for value in WRONG_KIND_LISTS:
            self.refuses(InvalidKinds, states_before, ABC, None, value)
            self.refuses(InvalidKinds, states_before, [], ('a', 1), value)

    def test_lists_of_effects(self):
        wrong = [None, True, False, 0, 1, '', 'a', b'a', [], (), {}, {0: None}, {None}, object(), list, range(1),
                 iter([None]), ('a', 1), ['a', 1], [[None]], [('b', 1)], (('b', 1),), [None, ('b', 1)],
                 [('a', 1), None, ['b', 1]], [('a', 1), ('aa', 1)]]
        for value in wrong:
            self.refuses(InvalidEffects, effect_on, value, 'a', None)
            self.refuses(InvalidEffects, effect_on, value, 'a', ('a', 1))
        for value in WRONG_STATES:
            for effects in [[value], [value, None], [None, value], (('a', 1), value, ('a', 1))]:
                self.refuses(InvalidEffects, effect_on, effects, 'a', None)

    def test_states(self):
        for value in WRONG_STATES:
            self.refuses(InvalidState, states_before, ABC, value, ['a'])
            self.refuses(InvalidState, states_before, [], value, ['a'])
            self.refuses(InvalidState, effect_on, [None], 'a', value)
        for value in [('b', 1), ['b', 1], ('aa', 1), ('c', HUGE)]:
            self.refuses(InvalidState, effect_on, [('c', 1), None], 'a', value)

    def test_the_order_of_the_errors(self):
        self.refuses(InvalidSequence, effect_of, BAD, 'A')
        self.refuses(TooLong, effect_of, LONG, 'A')
        self.refuses(InvalidSequence, effect_of, [('a', 401), ('a', 1)], 'a')
        for effects in [[], [None]]:
            for state in [None, ('a', 0), ('b', 1)]:
                self.refuses(InvalidKind, effect_on, effects, 'A', state)
        for state in [('a', 0), ('b', 1), True]:
            self.refuses(InvalidEffects, effect_on, [('b', 1)], 'a', state)
            self.refuses(InvalidState, effect_on, [None], 'a', state)
        for function in [have_same_effect, state_that_differs]:
            self.refuses(InvalidSequence, function, BAD, LONG)
            self.refuses(TooLong, function, LONG, BAD)
            self.refuses(InvalidSequence, function, [], BAD)
            self.refuses(TooLong, function, LONG, LONG)
            self.refuses(InvalidSequence, function, BAD, BAD)
        for state in [('a', 0), True, None]:
            for kinds in [[], None, ['b', 'a'], ['a']]:
                self.refuses(InvalidSequence, states_before, BAD, state, kinds)
                self.refuses(TooLong, states_before, LONG, state, kinds)
                if state is not None:
                    self.refuses(InvalidState, states_before, ABC, state, kinds)


class KindsOfValues(ExactCase):
    def test_lists_and_tuples_at_every_level(self):
        for value in shapes(ABC):
            self.same(self.unchanged(effect_of, value, 'd'), [('c', 1), None, ('c', 1), None])
            for other in shapes(ABC[::-1]):
                self.same(self.unchanged(have_same_effect, value, other), False)
                self.unchanged(state_that_differs, value, other)
            for state in [('d', 1), ['d', 1]]:
                self.same(self.unchanged(states_before, value, state, ('a', 'd')), [('d', 4)])
                self.same(self.unchanged(states_before, value, state, ['a', 'd']), [('d', 4)])
            self.same(self.unchanged(states_before, value, ['c', 1], ('a', 'd')), [None, ('d', 2)])
        for effects in [[['c', 1], None], (('c', 1), None), (['c', 1], None), [['c', 1], ['a', 3]]]:
            self.same(self.unchanged(effect_on, effects, 'a', None), ('c', 1))
        for state in [['a', 1], ('a', 1)]:
            self.same(self.unchanged(effect_on, [('c', 1), ['a', 3]], 'a', state), ('a', 3))
            self.same(self.unchanged(effect_on, (('c', 1), ['a', 3]), 'a', [state[0], 2]), ('a', 4))

    def test_results_may_be_passed_on(self):
        large = effect_on([('a', HUGE)], 'a', ('a', 9 * HUGE))
        self.same(effect_on([large], 'a', large), ('a', 20 * HUGE))
        self.same(states_before(ABC, ('a', 20 * HUGE), ['a']), [('a', 20 * HUGE + 1)])

    def test_returned_lists_are_new(self):
        self.gives_new_lists(
            lambda: effect_of(ABC, 'd'), lambda: effect_of([], 'd'), lambda: states_before(ABC, None, ['a', 'b', 'd']),
            lambda: states_before(S, ('c', 1), ['a', 'c']), lambda: states_before([], None, ['a']))
        empty = states_before([], ('c', 2), ['a', 'b'])
        empty.append('more')
        self.same(states_before([], ('c', 2), ['a', 'b']), [])

    def test_values_that_are_changed_are_judged_anew(self):
        runs = [['a', 1], ['b', 1]]
        self.same(effect_of(runs, 'c'), [None, ('b', 1), None])
        runs[1][1] = 2
        self.same(effect_of(runs, 'c'), [('b', 1), ('b', 2), ('b', 1), None])
        effects = [['c', 1], None]
        self.same(effect_on(effects, 'a', None), ('c', 1))
        effects[0][1] = 5
        self.same(effect_on(effects, 'a', None), ('c', 5))
        effects.append(['c', 1])
        self.refuses(InvalidEffects, effect_on, effects, 'a', None)


if __name__ == '__main__':
    unittest.main()
