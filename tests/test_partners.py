"""The functions of unlikepairs.partners: [11], [11a] to [11f], with [2], [3] and [5]."""

import unittest

from tests.support import (
    LARGEST, LONGEST, S, WRONG_NUMBERS, WRONG_SEQUENCES, ExactCase, all_items, grouped, leaving_pairs, mixed_items,
    multiplied, shapes)
from unlikepairs.errors import InvalidNumber, InvalidPosition, InvalidSequence
from unlikepairs.partners import is_pairing, longest_wait, nth_pair, pair_count, pairs_of, partner_of

# The b leave with items of the first run only, so no two pairs are of one block.
GROWING = [('a', LARGEST), ('b', 1)] * 200
BAD = [('a', 1), ('a', 1)]


def blocks(pairs):
    """Pairs in the order in which they leave as few tuples (first, second, count)."""
    found = []
    for first, second in pairs:
        if found and found[-1][0] + found[-1][2] == first and found[-1][1] + found[-1][2] == second:
            found[-1] = (found[-1][0], found[-1][1], found[-1][2] + 1)
        else:
            found.append((first, second, 1))
    return found


def longest(pairs):
    """The first of the pairs with the greatest difference."""
    return max(pairs, key=lambda pair: pair[1] - pair[0], default=None)


class Examples(ExactCase):
    def test_partner_of(self):
        self.same([partner_of(S, 1), partner_of(S, 8), partner_of(S, 7)], [4, 6, None])

    def test_pair_count(self):
        self.same([pair_count(S), pair_count(S, 5)], [4, 2])

    def test_pairs_of(self):
        self.same(pairs_of(S), [(0, 3, 3), (6, 8, 1)])

    def test_nth_pair(self):
        self.same(nth_pair([('a', 10 ** 30), ('b', 10 ** 29)], 7), (7, 1000000000000000000000000000007))

    def test_longest_wait(self):
        self.same(longest_wait(S), (0, 3))

    def test_is_pairing(self):
        runs = [('a', 2), ('b', 2)]
        self.same([is_pairing(runs, [(0, 2), (1, 3)]), is_pairing(runs, [(1, 2), (0, 3)])], [True, False])


class OneByOne(ExactCase):
    """Small sequences, compared with items that are kept one by one."""

    def check(self, items):
        runs = grouped(items)
        pairs = leaving_pairs(items)
        partners = dict(pairs + [(second, first) for first, second in pairs])
        moments = range(len(items) + 1)
        self.same([partner_of(runs, at) for at in range(len(items))], [partners.get(at) for at in range(len(items))])
        self.same([pair_count(runs, moment) for moment in moments],
                  [len([pair for pair in pairs if pair[1] < moment]) for moment in moments])
        self.same(pair_count(runs), len(pairs))
        self.same(pairs_of(runs), blocks(pairs))
        self.same([nth_pair(runs, index) for index in range(len(pairs))], pairs)
        self.same(longest_wait(runs), longest(pairs))
        self.same(is_pairing(runs, pairs), True)

    def test_small_sequences(self):
        for items in all_items('abc', 7):
            self.check(items)

    def test_four_kinds(self):
        for items in all_items('abcd', 5):
            self.check(items)

    def test_longer_sequences(self):
        for step in range(1, 30):
            for kinds in ['ab', 'abc', 'aabcd', 'aaab']:
                self.check(mixed_items(kinds, 60 + step, step))

    def test_longer_runs(self):
        for step in range(1, 30):
            counts = mixed_items([1, 2, 3, 5, 8, 13], 20, step)
            kinds = mixed_items('aabc', 20, step + 1)
            self.check([kind for kind, count in zip(kinds, counts) for each in range(count)])

    def test_one_run_that_leaves_with_many(self):
        self.check(['a', 'a', 'b'] * 60 + ['c'] * 70)
        self.check(['a', 'a', 'b'] * 60 + ['c'] * 50 + ['b'] * 3 + ['d'] * 30)

    def test_which_lists_are_pairings(self):
        for items in all_items('abc', 4):
            for others in all_items('abc', 4):
                wanted = leaving_pairs(items) == leaving_pairs(others)
                self.same(is_pairing(grouped(items), leaving_pairs(others)), wanted)


class Blocks(ExactCase):
    """The list of [11c] is ascending and as short as possible."""

    def test_runs_of_several_kinds_are_one_block(self):
        self.same(pairs_of([('a', 5), ('b', 1), ('c', 2), ('b', 1), ('d', 1)]), [(0, 5, 5)])
        self.same(pairs_of([('a', 5), ('b', 1), ('c', 9)]), [(0, 5, 5)])

    def test_a_waiting_item_between_them_separates_blocks(self):
        self.same(pairs_of([('a', 2), ('b', 1), ('a', 1), ('b', 2)]), [(0, 2, 1), (1, 4, 1), (3, 5, 1)])
        self.same(pairs_of([('a', 3), ('b', 1), ('a', 1), ('b', 2)]), [(0, 3, 1), (1, 5, 2)])

    def test_equal_differences_that_do_not_continue(self):
        self.same(pairs_of([('a', 1), ('b', 1), ('a', 1), ('b', 1)]), [(0, 1, 1), (2, 3, 1)])
        self.same(pairs_of([('a', 2), ('b', 4), ('a', 2)]), [(0, 2, 2), (4, 6, 2)])

    def test_the_list_is_ascending(self):
        for items in all_items('abc', 6):
            result = pairs_of(grouped(items))
            self.same(result, sorted(result))


class Edges(ExactCase):
    def test_the_empty_sequence(self):
        self.refuses(InvalidPosition, partner_of, [], 0)
        self.refuses(InvalidPosition, partner_of, [], -1)
        self.same([pair_count([]), pair_count([], 0), pairs_of([]), longest_wait([])], [0, 0, [], None])
        self.refuses(InvalidPosition, pair_count, [], 1)
        self.refuses(InvalidPosition, pair_count, [], -1)
        self.refuses(InvalidNumber, nth_pair, [], 0)
        self.refuses(InvalidNumber, nth_pair, [], -1)
        self.same([is_pairing([], []), is_pairing([], ()), is_pairing([], [(0, 1)])], [True, True, False])

    def test_one_run(self):
        for count in [1, 2, LARGEST]:
            runs = [('a', count)]
            self.same([partner_of(runs, 0), partner_of(runs, count - 1)], [None, None])
            self.refuses(InvalidPosition, partner_of, runs, count)
            self.same([pair_count(runs), pair_count(runs, 0), pair_count(runs, count)], [0, 0, 0])
            self.refuses(InvalidPosition, pair_count, runs, count + 1)
            self.same([pairs_of(runs), longest_wait(runs), is_pairing(runs, [])], [[], None, True])
            self.refuses(InvalidNumber, nth_pair, runs, 0)

    def test_both_ends_of_positions_moments_and_indexes(self):
        self.same([partner_of(S, 0), pair_count(S, 0), pair_count(S, 9)], [3, 0, 4])
        self.same([nth_pair(S, 0), nth_pair(S, 3)], [(0, 3), (6, 8)])
        for value in [-1, 9, LARGEST, -LARGEST]:
            self.refuses(InvalidPosition, partner_of, S, value)
        for value in [-1, 10, LARGEST, -LARGEST]:
            self.refuses(InvalidPosition, pair_count, S, value)
        for value in [-1, 4, LARGEST, -LARGEST]:
            self.refuses(InvalidNumber, nth_pair, S, value)

    def test_the_moment_may_be_omitted_or_passed_by_keyword(self):
        self.same([pair_count(S, None), pair_count(S, moment=None), pair_count(S, moment=5)], [4, 4, 2])
        self.refuses(InvalidPosition, lambda: pair_count(S, moment=10))

    def test_of_several_longest_waits_the_one_that_leaves_first(self):
        self.same(longest_wait([('a', 1), ('b', 1), ('a', 1), ('b', 1)]), (0, 1))
        self.same(longest_wait([('a', 1), ('b', 1), ('a', 3), ('b', 3), ('c', 3), ('a', 3)]), (2, 5))
        self.same(longest_wait([('a', 2), ('b', 2), ('a', 1), ('b', 1)]), (0, 2))


class Pairings(ExactCase):
    """The edges of [11f], and any values."""

    def test_400_and_401_pairs(self):
        for runs in [[('a', 400), ('b', 400)], [('a', LARGEST), ('b', 400)], [('b', 400), ('c', 300), ('a', LARGEST)]]:
            pairs = [nth_pair(runs, index) for index in range(400)]
            self.same(pair_count(runs), 400)
            self.same([is_pairing(runs, pairs), is_pairing(runs, pairs[:399])], [True, False])
            self.same(is_pairing(runs, pairs + [(800, 801)]), False)
            self.same(is_pairing(runs, pairs[:399] + [pairs[0]]), False)
        many = [('a', 1), ('b', 1)] * 199 + [('a', 202), ('b', 202)]
        for runs in [[('a', 401), ('b', 401)], [('a', LARGEST), ('b', 401)], many, LONGEST]:
            pairs = [nth_pair(runs, index) for index in range(401)]
            self.same([is_pairing(runs, pairs), is_pairing(runs, pairs[:400]), is_pairing(runs, [])], [False] * 3)

    def test_400_runs(self):
        runs = [('a', 1), ('b', 1)] * 200
        pairs = [(2 * at, 2 * at + 1) for at in range(200)]
        self.same([is_pairing(runs, pairs), is_pairing(runs, pairs[::-1])], [True, False])
        self.same(is_pairing(GROWING, [(at, LARGEST + at * (LARGEST + 1)) for at in range(200)]), True)

    def test_other_values(self):
        others = [None, True, False, 0, 1, '', '01', b'01', {}, {0: 1}, {(0, 1)}, object(), list, range(2),
                  iter([(0, 1)]), (0, 1), [0, 1], [[(0, 1)]], [(1, 0)], [(0, 1), (0, 1)], [(0, 1), None],
                  [None, (0, 1)], [None], [()], [(0,)], [(0, 1, 1)], [{0, 1}], [{0: 0, 1: 1}], [range(2)], ['01'],
                  [b'01'], [(0, 0)], [(1, 1)], [(0, 2)], [(-1, 1)], [(0, LARGEST)]]
        others = others + [[(0, value)] for value in WRONG_NUMBERS] + [[(value, 1)] for value in WRONG_NUMBERS]
        for value in others:
            self.same(is_pairing([('a', 1), ('b', 1)], value), False)
            if isinstance(value, list):
                self.same(is_pairing([('a', 1), ('b', 1)], tuple(value)), False)
        for value in others + [[(0, 1)]]:
            self.same(is_pairing([('a', 1)], value), False)
            self.same(is_pairing(LONGEST, value), False)

    def test_true_and_false_are_no_positions(self):
        for pair in [(False, True), (0, True), (False, 1), [False, 1]]:
            self.same(is_pairing([('a', 1), ('b', 1)], [pair]), False)
        self.same(is_pairing([('a', 1), ('b', 1)], [(0, 1)]), True)

    def test_deep_values(self):
        deep = []
        for level in range(36):
            deep = [deep]
        for value in [deep, [deep], [(deep, 1)], [(0, deep)]]:
            self.same(is_pairing([('a', 1), ('b', 1)], value), False)
            self.same(is_pairing([], value), False)


class LargeNumbers(ExactCase):
    def check_multiplied(self, items, factor):
        runs = grouped(items)
        large = multiplied(runs, factor)
        pairs = leaving_pairs(items)
        partners = dict(pairs + [(second, first) for first, second in pairs])
        self.same(pairs_of(large), [tuple([part * factor for part in block]) for block in blocks(pairs)])
        self.same(pair_count(large), len(pairs) * factor)
        wanted = longest(pairs)
        self.same(longest_wait(large), wanted and (wanted[0] * factor, wanted[1] * factor))
        for shift in [0, factor - 1, factor // 3]:
            self.same([nth_pair(large, index * factor + shift) for index in range(len(pairs))],
                      [(first * factor + shift, second * factor + shift) for first, second in pairs])
            for at in range(len(items)):
                found = None if at not in partners else partners[at] * factor + shift
                self.same(partner_of(large, at * factor + shift), found)
        for moment in range(len(items) + 1):
            self.same(pair_count(large, moment * factor), pair_count(runs, moment) * factor)
        self.refuses(InvalidNumber, nth_pair, large, len(pairs) * factor)
        self.refuses(InvalidPosition, partner_of, large, len(items) * factor)
        self.refuses(InvalidPosition, pair_count, large, len(items) * factor + 1)
        if pairs:
            self.same(is_pairing(large, pairs), False)

    def test_all_counts_multiplied(self):
        for items in all_items('abc', 5):
            for factor in [401, 10 ** 29, LARGEST // 5]:
                self.check_multiplied(items, factor)

    def test_longer_sequences_multiplied(self):
        for step in range(1, 8):
            self.check_multiplied(mixed_items('aabc', 40, step), 10 ** 28 + 7)

    def test_moments_within_runs(self):
        runs = [('a', LARGEST), ('b', LARGEST // 2), ('c', LARGEST)]
        for more in [0, 1, 7, LARGEST // 2 - 1, LARGEST // 2]:
            self.same(pair_count(runs, LARGEST + more), more)
        end = LARGEST + LARGEST // 2
        for more, wanted in [(1, 1), (LARGEST // 2, LARGEST // 2), (LARGEST, LARGEST // 2)]:
            self.same(pair_count(runs, end + more), LARGEST // 2 + wanted)

    def test_400_runs_that_cancel(self):
        total = 200 * LARGEST
        self.same(pairs_of(LONGEST), [(2 * at * LARGEST, (2 * at + 1) * LARGEST, LARGEST) for at in range(200)])
        self.same([pair_count(LONGEST), pair_count(LONGEST, 2 * total)], [total, total])
        self.same(pair_count(LONGEST, 2 * total - 1), total - 1)
        self.same([nth_pair(LONGEST, 0), nth_pair(LONGEST, LARGEST)], [(0, LARGEST), (2 * LARGEST, 3 * LARGEST)])
        self.same(nth_pair(LONGEST, total - 1), (2 * total - LARGEST - 1, 2 * total - 1))
        self.same([partner_of(LONGEST, 0), partner_of(LONGEST, 2 * total - 1)], [LARGEST, 2 * total - LARGEST - 1])
        self.same(longest_wait(LONGEST), (0, LARGEST))
        self.refuses(InvalidNumber, nth_pair, LONGEST, total)
        self.refuses(InvalidPosition, partner_of, LONGEST, 2 * total)
        self.refuses(InvalidPosition, pair_count, LONGEST, 2 * total + 1)

    def test_400_runs_that_grow(self):
        seconds = [LARGEST + at * (LARGEST + 1) for at in range(200)]
        self.same(pairs_of(GROWING), [(at, second, 1) for at, second in enumerate(seconds)])
        self.same([pair_count(GROWING), nth_pair(GROWING, 199)], [200, (199, seconds[199])])
        self.same(longest_wait(GROWING), (199, seconds[199]))
        self.same([partner_of(GROWING, 199), partner_of(GROWING, 200)], [seconds[199], None])
        self.same([partner_of(GROWING, seconds[0]), partner_of(GROWING, seconds[0] + 1)], [0, None])
        self.refuses(InvalidNumber, nth_pair, GROWING, 200)

    def test_the_last_of_400_runs_leaves_with_many(self):
        runs = [('a', 2), ('b', 1)] * 199 + [('a', 1), ('c', LARGEST)]
        items = ['a', 'a', 'b'] * 199 + ['a'] + ['c'] * 300
        self.same(pairs_of(runs), blocks(leaving_pairs(items)))
        self.same(pair_count(runs), 399)
        self.same(is_pairing(runs, leaving_pairs(items)), True)


class WrongInputs(ExactCase):
    def test_sequences(self):
        for value in WRONG_SEQUENCES:
            for function in [pair_count, pairs_of, longest_wait]:
                self.refuses(InvalidSequence, function, value)
            for function in [partner_of, pair_count, nth_pair]:
                self.refuses(InvalidSequence, function, value, 0)
            self.refuses(InvalidSequence, is_pairing, value, [])

    def test_numbers(self):
        for value in WRONG_NUMBERS:
            for sequence in [S, []]:
                self.refuses(InvalidPosition, partner_of, sequence, value)
                self.refuses(InvalidNumber, nth_pair, sequence, value)
                if value is not None:
                    self.refuses(InvalidPosition, pair_count, sequence, value)

    def test_the_order_of_the_errors(self):
        for value in [None, True, -1, 10, '0', [], LARGEST]:
            self.refuses(InvalidSequence, partner_of, BAD, value)
            self.refuses(InvalidSequence, pair_count, BAD, value)
            self.refuses(InvalidSequence, nth_pair, BAD, value)
            self.refuses(InvalidSequence, is_pairing, BAD, value)
        self.refuses(InvalidSequence, is_pairing, LONGEST + [('a', 1)], [(0, 1)] * 401)


class KindsOfValues(ExactCase):
    def test_lists_and_tuples_at_every_level(self):
        pairs = [(0, 3), (1, 4), (2, 5), (6, 8)]
        for value in shapes(S):
            self.same(self.unchanged(partner_of, value, 1), 4)
            self.same(self.unchanged(pair_count, value), 4)
            self.same(self.unchanged(pair_count, value, 5), 2)
            self.same(self.unchanged(pairs_of, value), [(0, 3, 3), (6, 8, 1)])
            self.same(self.unchanged(nth_pair, value, 3), (6, 8))
            self.same(self.unchanged(longest_wait, value), (0, 3))
            for listed in shapes(pairs):
                self.same(self.unchanged(is_pairing, value, listed), True)
                self.same(self.unchanged(is_pairing, value, listed[:3]), False)

    def test_returned_lists_are_new(self):
        self.gives_new_lists(lambda: pairs_of(S), lambda: pairs_of(tuple(S)), lambda: pairs_of([('a', 1), ('b', 1)]))
        empty = pairs_of([])
        empty.append('more')
        self.same(pairs_of([]), [])

    def test_values_that_are_changed_are_judged_anew(self):
        runs = [['a', 2], ['b', 1]]
        pairs = [[0, 2]]
        self.same([pairs_of(runs), is_pairing(runs, pairs)], [[(0, 2, 1)], True])
        runs[1][1] = 2
        self.same([pairs_of(runs), is_pairing(runs, pairs)], [[(0, 2, 2)], False])
        pairs.append([1, 3])
        self.same(is_pairing(runs, pairs), True)
        pairs[1][1] = True
        self.same(is_pairing(runs, pairs), False)
        runs[1][0] = 'a'
        self.refuses(InvalidSequence, pairs_of, runs)


if __name__ == '__main__':
    unittest.main()
