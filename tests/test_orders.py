"""The functions of unlikepairs.orders: [18], [18a] to [18e], with [2], [3], [5] and [28]."""

import math
import unittest

from tests.support import (
    LARGEST, SMALL_COUNTS, WRONG_COUNT_LISTS, WRONG_KINDS, WRONG_NUMBERS, WRONG_STATES, ExactCase, all_orders, effect,
    number_of, orders_by_state, shapes)
from unlikepairs.errors import InvalidCounts, InvalidItems, InvalidNumber, InvalidState, TooMany
from unlikepairs.orders import likeliest_state, nth_order, order_count, order_index, orders_leading_to, rank_of
from unlikepairs.remains import can_remain, remaining_range

COUNTS = [('a', 2), ('b', 1), ('c', 1)]
BAD = [('b', 1), ('a', 1)]

# Products of at most 3,000, and with them as many orders as possible.
LARGE_COUNTS = [
    [('a', 53), ('b', 54)],
    [('a', 13), ('b', 13), ('c', 13)],
    [('a', 6), ('b', 6), ('c', 6), ('d', 6)],
    [('a', 20), ('b', 2), ('c', 40)],
    [('a', 1), ('b', 700), ('c', 1)],
    [('a', 1), ('b', 1498)],
    [(kind, 1) for kind in 'abcdefghijk'],
    [(kind, 2) for kind in 'bdfhjln'],
]

# Products of exactly 3,000, and the least ones above it.
EXACT_COUNTS = [
    [('a', 2999)], [('a', 1), ('b', 1499)], [('a', 49), ('b', 59)], [('a', 9), ('b', 9), ('c', 29)],
    [('a', 1), ('b', 1), ('c', 2), ('d', 1), ('e', 4), ('f', 4), ('g', 4)],
]
LARGER_COUNTS = [
    ([('a', 3000)], 3001), ([('a', 1), ('b', 1500)], 3002), ([('a', 54), ('b', 54)], 3025),
    ([('a', 2), ('b', 1000)], 3003), ([(kind, 1) for kind in 'abcdefghijkl'], 4096),
    ([('a', LARGEST)], LARGEST + 1), ([('a', 1), ('b', LARGEST)], 2 * LARGEST + 2),
    ([(kind, LARGEST) for kind in 'abcdefghijkl'], (LARGEST + 1) ** 12),
]


def multinomial(counts):
    """The number of all orders, by factorials."""
    result = math.factorial(sum([count for kind, count in counts]))
    for kind, count in counts:
        result //= math.factorial(count)
    return result


def ranked(state):
    """None first, then in ascending order of the kinds and of the numbers."""
    return (0, '', 0) if state is None else (1, state[0], state[1])


def candidates(counts):
    """The states that can remain of counts, and some more."""
    kinds = [kind for kind, count in counts] + ['z']
    return [None] + [(kind, number) for kind in kinds for number in range(1, dict(counts).get(kind, 0) + 2)]


class Examples(ExactCase):
    def test_order_count_and_orders_leading_to(self):
        self.same([order_count(COUNTS), orders_leading_to(COUNTS, None), orders_leading_to(COUNTS, ('a', 2))],
                  [12, 10, 2])

    def test_nth_order(self):
        self.same(nth_order([('a', 2), ('b', 1), ('c', 1)], ('a', 2), 1), ['c', 'b', 'a', 'a'])

    def test_order_index(self):
        self.same(order_index([('a', 2), ('b', 1), ('c', 1)], ['c', 'b', 'a', 'a']), 1)

    def test_likeliest_state(self):
        self.same(likeliest_state([('a', 2), ('b', 1), ('c', 1)]), (None, 10))


class AllOrders(ExactCase):
    """Against all orders of small counts written out one by one."""

    def test_numbers_of_orders(self):
        for counts in SMALL_COUNTS:
            found = orders_by_state(counts)
            self.same(order_count(counts), len(all_orders(counts)))
            for state in candidates(counts):
                self.same(orders_leading_to(counts, state), len(found.get(state, [])))

    def test_orders_by_index(self):
        for counts in SMALL_COUNTS:
            if sum([count for kind, count in counts]) > 6:
                continue
            for state, orders in orders_by_state(counts).items():
                self.same([nth_order(counts, state, index) for index in range(len(orders))], orders)
                self.refuses(InvalidNumber, nth_order, counts, state, len(orders))

    def test_indexes_of_orders(self):
        for counts in SMALL_COUNTS:
            if sum([count for kind, count in counts]) > 6:
                continue
            for orders in orders_by_state(counts).values():
                self.same([order_index(counts, items) for items in orders], list(range(len(orders))))

    def test_some_orders_of_more_items(self):
        for counts in SMALL_COUNTS[::4]:
            for state, orders in orders_by_state(counts).items():
                for index in [0, len(orders) // 3, len(orders) // 2, len(orders) - 1]:
                    self.same(nth_order(counts, state, index), orders[index])
                    self.same(order_index(counts, orders[index]), index)
                self.refuses(InvalidNumber, nth_order, counts, state, len(orders))

    def test_likeliest_states(self):
        for counts in SMALL_COUNTS:
            found = orders_by_state(counts)
            most = max([len(orders) for orders in found.values()])
            states = [state for state in found if len(found[state]) == most]
            self.same(likeliest_state(counts), (min(states, key=ranked), most))


class Ties(ExactCase):
    def test_the_first_of_several_kinds(self):
        for counts in [[('a', 1), ('b', 1), ('c', 1)], [('a', 3), ('b', 3), ('c', 3)], [('b', 1), ('c', 1), ('d', 1)]]:
            state, orders = likeliest_state(counts)
            self.same(state[0], counts[0][0])
            for kind, count in counts:
                self.same(orders_leading_to(counts, (kind, state[1])), orders)

    def test_none_the_kinds_and_the_numbers_decide(self):
        """No counts that are small enough to be searched have other ties than those above."""
        states = [('b', 2), ('a', 10), None, ('aa', 1), ('b', 1), ('a', 9)]
        ranks = sorted([(state, 5) for state in states] + [(('z', 1), 6), (None, 4)], key=rank_of)
        self.same([state for state, orders in ranks],
                  [('z', 1), None, ('a', 9), ('a', 10), ('aa', 1), ('b', 1), ('b', 2), None])


class Edges(ExactCase):
    def test_no_counts(self):
        self.same([order_count([]), orders_leading_to([], None), orders_leading_to([], ('a', 1))], [1, 1, 0])
        self.same([nth_order([], None, 0), order_index([], []), order_index((), ()), likeliest_state([])],
                  [[], 0, 0, (None, 1)])
        self.refuses(InvalidNumber, nth_order, [], None, 1)
        self.refuses(InvalidNumber, nth_order, [], ('a', 1), 0)
        self.refuses(InvalidItems, order_index, [], ['a'])

    def test_one_kind(self):
        for count in [1, 2, 400, 401, 2999]:
            counts = [('a', count)]
            self.same([order_count(counts), orders_leading_to(counts, ('a', count)), orders_leading_to(counts, None)],
                      [1, 1, 0])
            self.same(nth_order(counts, ('a', count), 0), ['a'] * count)
            self.same([order_index(counts, ['a'] * count), likeliest_state(counts)], [0, (('a', count), 1)])

    def test_eleven_kinds(self):
        counts = [(kind, 1) for kind in 'abcdefghijk']
        first = list('abcdefghijk')
        self.same([order_count(counts), likeliest_state(counts)], [39916800, (('a', 1), 3628800)])
        self.same([nth_order(counts, ('k', 1), 0), order_index(counts, first)], [first, 0])
        self.same(order_index(counts, first[::-1]), 3628799)
        self.same(nth_order(counts, ('a', 1), 3628799), first[::-1])

    def test_the_first_and_the_last_index(self):
        for counts in LARGE_COUNTS:
            state, number = likeliest_state(counts)
            for index in [0, number - 1]:
                items = nth_order(counts, state, index)
                self.same([order_index(counts, items), effect(items, None)], [index, state])
            for index in [-1, number, number + 1, -number, 10 ** 60]:
                self.refuses(InvalidNumber, nth_order, counts, state, index)

    def test_states_to_which_no_order_leads(self):
        for state in [('d', 1), ('a', 1), ('a', 3), ('a', 4), ('b', 1), ('c', 2), ('z', LARGEST), ('a', 10 ** 39)]:
            self.same(orders_leading_to(COUNTS, state), 0)
            for index in [0, 1, -1]:
                self.refuses(InvalidNumber, nth_order, COUNTS, state, index)

    def test_a_product_of_exactly_3000(self):
        for counts in EXACT_COUNTS:
            self.same(order_count(counts), multinomial(counts))
            state, number = likeliest_state(counts)
            self.same(orders_leading_to(counts, state), number)
            items = nth_order(counts, state, number - 1)
            self.same([len(items), effect(items, None)], [sum([count for kind, count in counts]), state])
            self.same(order_index(counts, items), number - 1)

    def test_a_product_above_3000(self):
        for counts, product in LARGER_COUNTS:
            for function, more in [(order_count, []), (orders_leading_to, [None]), (nth_order, [None, 0]),
                                   (order_index, [['a']]), (likeliest_state, [])]:
                self.same(self.refuses(TooMany, function, counts, *more).count, product)


class LargeNumbers(ExactCase):
    def test_numbers_of_orders(self):
        for counts in LARGE_COUNTS:
            self.same(order_count(counts), multinomial(counts))
            ends = [(kind, remaining_range(counts, kind)) for kind, count in counts]
            states = [None] if can_remain(counts, None) else []
            states += [(kind, number) for kind, end in ends if end for number in range(end[0], end[1] + 1, 2)]
            numbers = [orders_leading_to(counts, state) for state in states]
            self.same(sum(numbers), multinomial(counts))
            self.same(min(numbers) > 0, True)
            most = max(numbers)
            self.same(likeliest_state(counts), (states[numbers.index(most)], most))

    def test_orders_and_indexes_are_inverse(self):
        for counts in LARGE_COUNTS:
            states = sorted([state for state in candidates(counts) if can_remain(counts, state)], key=ranked)
            for state in states[::max(1, len(states) // 2)]:
                number = orders_leading_to(counts, state)
                before = None
                for index in sorted({0, number // 7, number - 1}):
                    items = nth_order(counts, state, index)
                    self.same([(kind, items.count(kind)) for kind in sorted(set(items))], counts)
                    self.same([effect(items, None), order_index(counts, items)], [state, index])
                    self.assertTrue(before is None or before < items)
                    before = items

    def test_two_kinds(self):
        counts = [('a', 53), ('b', 54)]
        number = math.comb(107, 53)
        self.same([order_count(counts), orders_leading_to(counts, ('b', 1))], [number, number])
        self.same(nth_order(counts, ('b', 1), 0), ['a'] * 53 + ['b'] * 54)
        self.same(nth_order(counts, ('b', 1), number - 1), ['b'] * 54 + ['a'] * 53)
        self.same(nth_order(counts, ('b', 1), 1), ['a'] * 52 + ['b', 'a'] + ['b'] * 53)
        self.same(order_index(counts, ['b'] + ['a'] * 53 + ['b'] * 53), math.comb(106, 52))

    def test_orders_of_more_than_400_items(self):
        counts = [('a', 1), ('b', 1498)]
        for at in [0, 1, 700, 1498]:
            items = ['b'] * at + ['a'] + ['b'] * (1498 - at)
            self.same(order_index(counts, items), at)
            self.same(order_index(counts, tuple(items)), at)
            self.same(nth_order(counts, ('b', 1497), at), items)


class WrongInputs(ExactCase):
    def test_counts(self):
        for value in WRONG_COUNT_LISTS:
            self.refuses(InvalidCounts, order_count, value)
            self.refuses(InvalidCounts, likeliest_state, value)
            self.refuses(InvalidCounts, orders_leading_to, value, None)
            self.refuses(InvalidCounts, nth_order, value, None, 0)
            self.refuses(InvalidCounts, order_index, value, [])

    def test_states(self):
        for value in WRONG_STATES:
            for counts in [COUNTS, [], [('a', LARGEST)]]:
                self.refuses(InvalidState, orders_leading_to, counts, value)
                self.refuses(InvalidState, nth_order, counts, value, 0)

    def test_indexes(self):
        for value in WRONG_NUMBERS + [-1, -LARGEST, 10, LARGEST, 10 ** 50]:
            self.refuses(InvalidNumber, nth_order, COUNTS, None, value)
        for value in WRONG_NUMBERS + [-1, 1, 10 ** 50]:
            self.refuses(InvalidNumber, nth_order, [], None, value)
            self.refuses(InvalidNumber, nth_order, [('a', 1)], ('a', 1), value)

    def test_items(self):
        wrong = [None, True, 0, 'aabc', b'aabc', {}, {'a': 1}, {'a', 'b'}, object(), list, iter('aabc'), range(4), [],
                 (), ['a'], ['a', 'a', 'b'], ['a', 'b', 'c'], ['a', 'a', 'b', 'b'], ['a', 'a', 'b', 'c', 'c'],
                 ['a', 'a', 'b', 'd'], ['a', 'a', 'a', 'b', 'c'], ['aa', 'b', 'c'], ['a', 'a', 'b', ['c']],
                 [('a', 2), ('b', 1), ('c', 1)], [['a', 'a', 'b', 'c']], ['a', 'a', 'b', 'c', None], ['a'] * 401]
        wrong = wrong + [['a', 'a', 'b', kind] for kind in WRONG_KINDS]
        for value in wrong:
            self.refuses(InvalidItems, order_index, COUNTS, value)
            if isinstance(value, list):
                self.refuses(InvalidItems, order_index, COUNTS, tuple(value))

    def test_the_order_of_the_errors(self):
        for state in [True, ('a', 0), 'a']:
            self.refuses(InvalidCounts, orders_leading_to, BAD, state)
            self.refuses(InvalidState, orders_leading_to, [('a', 3000)], state)
            for index in [-1, True, None, 0]:
                self.refuses(InvalidCounts, nth_order, BAD, state, index)
                self.refuses(InvalidState, nth_order, [('a', 3000)], state, index)
                self.refuses(InvalidState, nth_order, COUNTS, state, index)
        for index in [-1, True, None, 10 ** 50]:
            self.same(self.refuses(TooMany, nth_order, [('a', 3000)], None, index).count, 3001)
        for items in [None, [], ['A'], ['a'] * 3000]:
            self.refuses(InvalidCounts, order_index, BAD, items)
            self.same(self.refuses(TooMany, order_index, [('a', 3000)], items).count, 3001)
        self.refuses(InvalidCounts, order_count, [('a', LARGEST + 1)])
        self.refuses(InvalidCounts, likeliest_state, [('b', 3000), ('a', 3000)])


class KindsOfValues(ExactCase):
    def test_lists_and_tuples_at_every_level(self):
        for counts in shapes(COUNTS):
            self.same(self.unchanged(order_count, counts), 12)
            self.same(self.unchanged(likeliest_state, counts), (None, 10))
            for state in [('a', 2), ['a', 2]]:
                self.same(self.unchanged(orders_leading_to, counts, state), 2)
                self.same(self.unchanged(nth_order, counts, state, 1), ['c', 'b', 'a', 'a'])
            for items in [['c', 'b', 'a', 'a'], ('c', 'b', 'a', 'a')]:
                self.same(self.unchanged(order_index, counts, items), 1)
        for counts in shapes([('a', 2), ('b', 1)]):
            self.same(self.unchanged(likeliest_state, counts), (('a', 1), 3))

    def test_returned_lists_are_new(self):
        self.gives_new_lists(lambda: nth_order(COUNTS, None, 3), lambda: nth_order([('a', 2)], ('a', 2), 0))
        empty = nth_order([], None, 0)
        empty.append('more')
        self.same(nth_order([], None, 0), [])

    def test_values_that_are_changed_are_judged_anew(self):
        counts, state, items = [['a', 2], ['b', 1]], ['a', 1], ['b', 'a', 'a']
        self.same([orders_leading_to(counts, state), order_index(counts, items)], [3, 2])
        counts[1][1] = 2
        self.same(orders_leading_to(counts, state), 0)
        self.refuses(InvalidItems, order_index, counts, items)
        items.append('b')
        self.same(order_index(counts, items), 3)
        counts[1][0] = 'a'
        self.refuses(InvalidCounts, order_index, counts, items)

    def test_results_may_be_passed_on(self):
        state, orders = likeliest_state(COUNTS)
        self.same(order_index(COUNTS, nth_order(COUNTS, state, orders - 1)), orders - 1)
        self.same(number_of(state), 0)


if __name__ == '__main__':
    unittest.main()
