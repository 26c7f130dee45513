"""What the document promises over the whole program: the modules agree with one another."""

import unittest

from tests.support import LARGEST, ExactCase, all_items, grouped, mixed_items, number_of
from unlikepairs.console import Console
from unlikepairs.effects import effect_of, effect_on, states_before
from unlikepairs.meetings import distance_of, meeting_length, meeting_moment, shortest_meeting
from unlikepairs.orders import likeliest_state, nth_order, order_count, order_index, orders_leading_to
from unlikepairs.partners import nth_pair, pair_count, pairs_of, partner_of
from unlikepairs.records import certain_kinds, conflict_of, fitting_count, fitting_index, nth_fitting, record_of
from unlikepairs.remains import can_remain, reason_against, remaining_count, remaining_range, sequence_for
from unlikepairs.rounds import after_rounds
from unlikepairs.sequences import counts_of, items_of, joined, part_of, runs_of, total_length
from unlikepairs.station import Station
from unlikepairs.texts import (
    format_record, format_sequence, format_state, parse_record, parse_sequence, parse_state)
from unlikepairs.waiting import empty_moments, state_after, state_at, waiting_at


def large_runs(step):
    """A sequence of large and small runs, another one for each step."""
    kinds = [kind for kind, count in grouped(mixed_items('aabcd', 60, step))]
    counts = mixed_items([1, 2, 3, 10 ** 9, LARGEST // 3, LARGEST], len(kinds), step + 1)
    return list(zip(kinds, counts))


def cuts(length):
    """Some moments of a sequence."""
    return sorted({0, length // 7, length // 3, length // 2, max(0, length - 1), length})


class Parts(ExactCase):
    """A sequence that is divided into parts gives the same states, pairs and meetings as the whole."""

    def check(self, runs):
        length = total_length(runs)
        for cut in cuts(length):
            first, second = part_of(runs, 0, cut), part_of(runs, cut, length - cut)
            self.same(joined(first, second), runs)
            for state in [None, ('a', 3), ('d', LARGEST)]:
                between = state_after(first, state)
                self.same(state_at(runs, cut, state), between)
                self.same(state_after(second, between), state_after(runs, state))
                for other in [None, ('b', 3), ('a', LARGEST)]:
                    self.check_meeting(first, second, state, other)
            self.same(pair_count(runs, cut), pair_count(first))
            self.check_station(first, second)

    def check_meeting(self, first, second, one, other):
        whole = meeting_moment(joined(first, second), one, other)
        found = meeting_moment(first, one, other)
        if found is None:
            later = meeting_moment(second, state_after(first, one), state_after(first, other))
            found = None if later is None else total_length(first) + later
        self.same(found, whole)

    def check_station(self, first, second):
        """A station that receives both parts has the pairs and the waiting items of the whole."""
        runs = joined(first, second)
        length = total_length(runs)
        station, console = Station(), Console()
        for kind, count in first + second:
            station.arrive(kind, count)
            console.execute(f'arrive {kind} {count}')
        self.same([station.current_state(), station.waiting_positions()], [state_after(runs), waiting_at(runs, length)])
        self.same([station.pair_total(), station.arrival_count()], [pair_count(runs), length])
        self.same([console.execute('sequence'), console.execute('state')],
                  [format_sequence(runs) or 'empty', format_state(state_after(runs))])
        for start, partner, count in pairs_of(runs)[::5]:
            self.same([station.partner_at(start), station.partner_at(partner + count - 1)],
                      [partner, start + count - 1])
        for position in cuts(length)[:-1]:
            self.same(station.partner_at(position), partner_of(runs, position))

    def test_small_sequences(self):
        for items in all_items('abc', 4):
            self.check(grouped(items))

    def test_large_sequences(self):
        for step in range(1, 9):
            self.check(large_runs(step))


class Records(ExactCase):
    """The record of a list fits the list, and its levels are the numbers of waiting items."""

    def check(self, items, kinds):
        runs = runs_of(items)
        record = record_of(items)
        level = 0
        for moment, (kind, action) in enumerate(record):
            self.same(number_of(state_at(runs, moment)), level)
            level += 1 if action == 'waits' else -1
        self.same(number_of(state_after(runs)), level)
        leaving = [at for at, (kind, action) in enumerate(record) if action == 'leaves']
        self.same([nth_pair(runs, index)[1] for index in range(pair_count(runs))], leaving)
        unknown = [(None, action) for kind, action in record]
        self.same([conflict_of(kinds, record), conflict_of(kinds, unknown)], [None, None])
        self.same([nth_fitting(kinds, record, 0), certain_kinds(kinds, record)], [items, items])
        index = fitting_index(kinds, unknown, items)
        self.same([0 <= index < fitting_count(kinds, unknown), nth_fitting(kinds, unknown, index)], [True, items])
        self.same(parse_record(format_record(record)), record)
        self.same(items_of(parse_sequence(format_sequence(runs))), items)
        self.same(len([moment for moment in empty_moments(runs) if moment < len(items)]),
                  len([at for at in range(len(items)) if state_at(runs, at) is None]))

    def test_small_lists(self):
        for items in all_items('abc', 5):
            self.check(items, ['a', 'b', 'c'])

    def test_long_lists(self):
        for step in range(1, 5):
            self.check(mixed_items('abcde', 100 * step, step), list('abcdefghijkl'))


class Counts(ExactCase):
    """What can remain of counts, in how many orders, and what a sequence with these counts leads to."""

    def test_sequences_orders_and_states(self):
        for items in all_items('abc', 5):
            counts = counts_of(runs_of(items))
            state = state_after(runs_of(items))
            self.same([can_remain(counts, state), reason_against(counts, state)], [True, None])
            self.same(state_after(sequence_for(counts, state)), state)
            index = order_index(counts, items)
            self.same([index < orders_leading_to(counts, state), nth_order(counts, state, index)], [True, items])

    def test_numbers_of_states_and_orders(self):
        for step in range(1, 12):
            counts = counts_of(runs_of(mixed_items('abcd', 5 + step % 9, step)))
            states = [None] if can_remain(counts, None) else []
            for kind, count in counts:
                ends = remaining_range(counts, kind)
                states += [] if ends is None else [(kind, number) for number in range(ends[0], ends[1] + 1, 2)]
            orders = [orders_leading_to(counts, state) for state in states]
            self.same([len(states), sum(orders)], [remaining_count(counts), order_count(counts)])
            self.same(likeliest_state(counts)[1], max(orders))

    def test_effects_rounds_and_meetings(self):
        for step in range(1, 12):
            runs = runs_of(mixed_items('abc', 12, step))
            for state in [('a', 3), ('c', 7), None]:
                kind = 'a' if state is None else state[0]
                after = state_after(runs, state)
                self.same([effect_on(effect_of(runs, kind), kind, state), after_rounds(runs, 1, state)], [after, after])
                self.same(state in states_before(runs, after, ['a', 'b', 'c']), True)
                self.same(distance_of(after, state) % 2, 0)
                meeting = shortest_meeting(['a', 'b', 'c', 'd'], state, after)
                self.same(total_length(meeting), meeting_length(['a', 'b', 'c', 'd'], state, after))

    def test_texts_of_results(self):
        for step in range(1, 9):
            runs = large_runs(step)
            self.same(parse_sequence(format_sequence(runs)), runs)
            for moment in cuts(total_length(runs)):
                state = state_at(runs, moment)
                self.same(parse_state(format_state(state)), state)


if __name__ == '__main__':
    unittest.main()
