"""The class of unlikepairs.station: [25] to [25g], with [2], [3], [5] and [7]."""

import unittest

from tests.support import (
    LARGE_ARRIVALS, LARGEST, WRONG_COUNTS, WRONG_KINDS, WRONG_NUMBERS, ExactCase, OneByOneStation, all_items,
    mixed_items, operations_from, ranges_of, state_of)
from unlikepairs.errors import InvalidKind, InvalidNumber, InvalidPosition, NothingToUndo
from unlikepairs.partners import nth_pair, pair_count, partner_of
from unlikepairs.sequences import joined, total_length
from unlikepairs.station import Station
from unlikepairs.waiting import state_after, waiting_at


def built(operations):
    """A station after some operations."""
    station = Station()
    for name, value, count in operations:
        getattr(station, name)(value, count)
    return station


class StationCase(ExactCase):
    def check(self, station, model):
        """Check everything that a station tells."""
        self.same(station.current_state(), state_of(model.queue))
        self.same(station.waiting_positions(), ranges_of([position for kind, position in model.queue]))
        self.same([station.arrival_count(), station.pair_total(), station.give_up_count()],
                  [len(model.partners), model.pairs, model.given_up])
        self.same([station.partner_at(at) for at in range(len(model.partners))], model.partners)
        self.same([station.operations_done(), len(station)], [model.operations, len(model.operations)])
        self.refuses(InvalidPosition, station.partner_at, len(model.partners))
        self.refuses(InvalidPosition, station.partner_at, -1)
        self.refuses(InvalidNumber, station.give_up, len(model.queue))
        self.refuses(InvalidNumber, station.give_up, 0, len(model.queue) + 1)

    def report(self, station):
        """All that a station tells, as a text."""
        return repr([station.current_state(), station.waiting_positions(), station.arrival_count(),
                     station.pair_total(), station.give_up_count(), station.operations_done(), len(station),
                     [station.partner_at(at) for at in range(min(50, station.arrival_count()))]])

    def is_equal(self, one, other):
        self.same([one == other, other == one, one != other, other != one], [True, True, False, False])

    def is_unequal(self, one, other):
        self.same([one == other, other == one, one != other, other != one], [False, False, True, True])


class Examples(StationCase):
    def test_arrivals_and_giving_up(self):
        t = Station()
        self.same([t.arrive('a', 3), t.arrive('b'), t.give_up(1), t.waiting_positions(), t.current_state(),
                   t.partner_at(3)], [0, 1, 2, [(1, 1)], ('a', 1), 0])

    def test_too_many_that_give_up(self):
        t = Station()
        self.same(t.arrive('a', 2), 0)
        self.refuses(InvalidNumber, t.give_up, 0, 3)
        self.same(t.waiting_positions(), [(0, 1)])


class OneByOne(StationCase):
    def test_arrivals_of_single_items(self):
        for items in all_items('abc', 6):
            station, model = Station(), OneByOneStation()
            for kind in items:
                self.same(station.arrive(kind), model.do(('arrive', kind, 1)))
            self.check(station, model)

    def test_arrivals_of_several_items(self):
        for step in range(1, 60):
            station, model = Station(), OneByOneStation()
            for kind, count in zip(mixed_items('aabc', 15, step), mixed_items([1, 2, 3, 5, 8], 15, step + 1)):
                self.same(station.arrive(kind, count), model.do(('arrive', kind, count)))
                self.check(station, model)

    def test_every_item_gives_up(self):
        for items in all_items('abc', 5):
            waiting = len(OneByOneStation([('arrive', kind, 1) for kind in items]).queue)
            for index in range(waiting):
                for count in range(1, waiting - index + 1):
                    for kind in 'ad':
                        model = OneByOneStation([('arrive', kind, 1) for kind in items])
                        station = built(model.operations)
                        self.same(station.give_up(index, count), model.do(('give_up', index, count)))
                        self.check(station, model)
                        self.same(station.arrive(kind, 3), model.do(('arrive', kind, 3)))
                        self.check(station, model)

    def test_all_operations_in_any_order(self):
        for step in range(1, 60):
            station, model = Station(), OneByOneStation()
            for operation in operations_from(step, 40, 6):
                if operation == 'undo':
                    self.same(station.undo(), None)
                    model = model.undone()
                else:
                    self.same(getattr(station, operation[0])(*operation[1:]), model.do(operation))
                self.check(station, model)

    def test_everything_undone(self):
        for step in range(1, 20):
            operations = [each for each in operations_from(step, 25, 5) if each != 'undo']
            station = Station()
            reports = []
            done = []
            for operation in operations:
                model = OneByOneStation(done)
                if operation[0] == 'give_up' and operation[1] + operation[2] > len(model.queue):
                    continue
                reports.append(self.report(station))
                done.append(operation)
                getattr(station, operation[0])(*operation[1:])
            while reports:
                self.same(station.undo(), None)
                self.assertEqual(self.report(station), reports.pop())
            self.is_equal(station, Station())
            self.refuses(NothingToUndo, station.undo)

    def test_duplicates_in_between(self):
        for step in range(1, 30):
            station, model = Station(), OneByOneStation()
            kept = []
            for at, operation in enumerate(operations_from(step, 30, 5)):
                if at % 5 == 2:
                    twin = station.duplicate()
                    kept.append((station, model))
                    self.is_equal(station, twin)
                    station, model = twin, OneByOneStation(model.operations)
                if operation == 'undo':
                    station.undo()
                    model = model.undone()
                else:
                    getattr(station, operation[0])(*operation[1:])
                    model.do(operation)
                self.check(station, model)
            for old, told in kept:
                self.check(old, told)
                while told.operations:
                    old.undo()
                    told = told.undone()
                    self.check(old, told)


class Equality(StationCase):
    def test_new_stations(self):
        self.is_equal(Station(), Station())
        station = Station()
        self.is_equal(station, station)

    def test_the_same_in_other_operations(self):
        self.is_equal(built([('arrive', 'a', 2)]), built([('arrive', 'a', 1), ('arrive', 'a', 1)]))
        self.is_equal(built([('arrive', 'a', 3), ('give_up', 0, 2)]),
                      built([('arrive', 'a', 3), ('give_up', 0, 1), ('give_up', 0, 1)]))
        self.is_equal(built([('arrive', 'a', 1), ('arrive', 'b', 1)]), built([('arrive', 'c', 1), ('arrive', 'a', 1)]))
        self.is_equal(built([('arrive', 'a', 2), ('give_up', 0, 2)]), built([('arrive', 'b', 2), ('give_up', 0, 2)]))
        undone = built([('arrive', 'a', 2), ('arrive', 'b', 1)])
        undone.undo()
        self.is_equal(undone, built([('arrive', 'a', 2)]))

    def test_partners_do_not_count(self):
        one = built([('arrive', 'a', 2), ('arrive', 'b', 2)])
        other = built([('arrive', 'a', 1), ('arrive', 'b', 1), ('arrive', 'a', 1), ('arrive', 'b', 1)])
        self.same([one.partner_at(0), other.partner_at(0)], [2, 1])
        self.is_equal(one, other)

    def test_other_kinds(self):
        self.is_unequal(built([('arrive', 'a', 2)]), built([('arrive', 'b', 2)]))

    def test_other_numbers_of_waiting_items(self):
        self.is_unequal(built([('arrive', 'a', 2)]), built([('arrive', 'a', 3)]))
        self.is_unequal(built([('arrive', 'a', 3)]), built([('arrive', 'a', 3), ('give_up', 2, 1)]))

    def test_other_positions(self):
        self.is_unequal(built([('arrive', 'a', 3), ('give_up', 0, 1)]), built([('arrive', 'a', 3), ('give_up', 1, 1)]))
        self.is_unequal(built([('arrive', 'a', 3), ('give_up', 2, 1)]), built([('arrive', 'a', 3), ('give_up', 1, 1)]))

    def test_other_numbers_of_arrivals(self):
        self.is_unequal(Station(), built([('arrive', 'a', 2), ('give_up', 0, 2)]))
        self.is_unequal(built([('arrive', 'a', 3), ('give_up', 1, 2)]), built([('arrive', 'a', 2), ('give_up', 1, 1)]))
        self.is_unequal(built([('arrive', 'a', 3), ('give_up', 0, 3)]), built([('arrive', 'a', 2), ('give_up', 0, 2)]))

    def test_other_numbers_of_pairs(self):
        one = built([('arrive', 'a', 2), ('give_up', 0, 2)])
        self.is_unequal(one, built([('arrive', 'a', 1), ('arrive', 'b', 1)]))

    def test_other_values(self):
        for station in [Station(), built([('arrive', 'a', 2)])]:
            others = [None, True, False, 0, 2, '', 'a', (), [], {}, set(), object(), Station, ('a', 2), [(0, 1)],
                      station.operations_done(), station.current_state(), station.waiting_positions(),
                      (station.current_state(), station.waiting_positions(), 2, 0)]
            for value in others:
                self.is_unequal(station, value)

    def test_a_value_that_is_equal_to_everything(self):
        class Same:
            def __eq__(self, other):
                return True

        self.same(Station() == Same(), False)

    def test_nothing_changes_by_comparing(self):
        one, other = built([('arrive', 'a', 2)]), built([('arrive', 'a', 3), ('give_up', 1, 1)])
        before = self.report(one), self.report(other)
        self.is_unequal(one, other)
        self.assertEqual((self.report(one), self.report(other)), before)


class Duplicates(StationCase):
    OPERATIONS = [('arrive', 'a', 5), ('arrive', 'b', 2), ('give_up', 1, 1), ('arrive', 'a', 1)]

    def test_a_duplicate_has_the_same_history(self):
        station = built(self.OPERATIONS)
        twin = station.duplicate()
        self.assertIs(type(twin), Station)
        self.assertIsNot(twin, station)
        self.is_equal(twin, station)
        self.same(self.report(twin), self.report(station))

    def test_what_is_done_to_one_does_not_change_the_other(self):
        for changed in [lambda each: each.arrive('b', 2), lambda each: each.arrive('a', 2), lambda each: each.undo(),
                        lambda each: each.give_up(0, 3), lambda each: each.give_up(2)]:
            station = built(self.OPERATIONS)
            twin = station.duplicate()
            before = self.report(station)
            changed(twin)
            self.assertEqual(self.report(station), before)
            self.is_unequal(station, twin)
            changed(station)
            self.is_equal(station, twin)
            self.assertEqual(self.report(station), self.report(twin))
            before = self.report(twin)
            station.arrive('a')
            station.give_up(0)
            self.assertEqual(self.report(twin), before)

    def test_both_can_be_undone(self):
        station = built(self.OPERATIONS)
        twin = station.duplicate()
        for each in range(4):
            twin.undo()
        self.is_equal(twin, Station())
        self.refuses(NothingToUndo, twin.undo)
        self.same(len(station), 4)
        self.is_equal(station, built(self.OPERATIONS))
        for each in range(4):
            station.undo()
        self.is_equal(twin, station)

    def test_a_duplicate_of_a_new_station_and_of_a_duplicate(self):
        station = Station()
        twin = station.duplicate()
        twin.arrive('a')
        third = twin.duplicate()
        third.arrive('a')
        self.same([len(station), len(twin), len(third)], [0, 1, 2])
        self.same([each.waiting_positions() for each in [station, twin, third]], [[], [(0, 0)], [(0, 1)]])


class Edges(StationCase):
    def test_a_new_station(self):
        station = Station()
        self.check(station, OneByOneStation())
        self.same([station.current_state(), station.waiting_positions(), station.arrival_count(), station.pair_total(),
                   station.give_up_count(), station.operations_done(), len(station)], [None, [], 0, 0, 0, [], 0])
        self.refuses(NothingToUndo, station.undo)
        self.refuses(InvalidPosition, station.partner_at, 0)
        self.refuses(InvalidNumber, station.give_up, 0)
        self.refuses(InvalidNumber, station.give_up, 0, 0)

    def test_counts_may_be_omitted_or_passed_by_keyword(self):
        station = Station()
        self.same([station.arrive('a'), station.arrive('a', count=4), station.arrive('b', 1)], [0, 0, 1])
        self.same([station.give_up(0), station.give_up(1, count=2)], [1, 3])
        self.same(station.operations_done(), [('arrive', 'a', 1), ('arrive', 'a', 4), ('arrive', 'b', 1),
                                              ('give_up', 0, 1), ('give_up', 1, 2)])
        self.same(station.waiting_positions(), [(2, 2)])

    def test_counts_of_1_and_of_10_to_the_30(self):
        station = Station()
        self.same([station.arrive('a', LARGEST), station.arrive('b', 1), station.arrive('b', LARGEST)],
                  [0, 1, LARGEST - 1])
        self.same([station.current_state(), station.waiting_positions()], [('b', 1), [(2 * LARGEST, 2 * LARGEST)]])
        self.refuses(InvalidNumber, station.arrive, 'a', LARGEST + 1)
        self.refuses(InvalidNumber, station.arrive, 'a', 0)

    def test_neighbouring_positions_are_one_range(self):
        station = Station()
        for count in [1, 2, 3]:
            station.arrive('a', count)
        self.same(station.waiting_positions(), [(0, 5)])
        station.give_up(2, 2)
        self.same(station.waiting_positions(), [(0, 1), (4, 5)])
        station.arrive('a', 2)
        self.same(station.waiting_positions(), [(0, 1), (4, 7)])
        station.give_up(5)
        station.arrive('a')
        self.same(station.waiting_positions(), [(0, 1), (4, 6), (8, 8)])

    def test_all_give_up(self):
        station = built([('arrive', 'a', 3), ('give_up', 0, 3)])
        self.same([station.current_state(), station.waiting_positions(), station.give_up_count()], [None, [], 3])
        self.same([station.partner_at(at) for at in range(3)], [None] * 3)
        self.same([station.arrive('b', 2), station.current_state(), station.waiting_positions()],
                  [0, ('b', 2), [(3, 4)]])

    def test_who_gave_up_has_no_partner(self):
        station = built([('arrive', 'a', 3), ('give_up', 1, 1), ('arrive', 'b', 3)])
        self.same([station.partner_at(at) for at in range(6)], [3, None, 4, 0, 2, None])

    def test_undo_with_nothing_to_undo(self):
        station = built([('arrive', 'a', 3)])
        station.undo()
        self.refuses(NothingToUndo, station.undo)
        self.is_equal(station, Station())
        self.same([station.arrive('b'), station.waiting_positions()], [0, [(0, 0)]])

    def test_an_operation_that_follows_an_undone_one(self):
        station = built([('arrive', 'a', 3), ('arrive', 'b', 1)])
        station.undo()
        self.same([station.arrive('c', 5), station.operations_done()], [3, [('arrive', 'a', 3), ('arrive', 'c', 5)]])
        self.same([station.partner_at(3), station.waiting_positions()], [0, [(6, 7)]])

    def test_kinds_of_one_and_of_eight_letters(self):
        station = built([('arrive', 'abcdefgh', 2), ('arrive', 'a', 1)])
        self.same(station.current_state(), ('abcdefgh', 1))


class LargeNumbers(StationCase):
    def check_sequence(self, runs):
        """A station tells of its arrivals what the functions tell of their sequence."""
        station = Station()
        sequence = []
        for kind, count in runs:
            pairs = station.arrive(kind, count)
            before = pair_count(sequence)
            sequence = joined(sequence, [(kind, count)])
            self.same(pairs, pair_count(sequence) - before)
        length = total_length(sequence)
        self.same(station.current_state(), state_after(sequence))
        self.same(station.waiting_positions(), waiting_at(sequence, length))
        self.same([station.arrival_count(), station.pair_total(), station.give_up_count()],
                  [length, pair_count(sequence), 0])
        pairs = pair_count(sequence)
        for index in sorted({0, pairs // 3, pairs // 2, pairs - 1}):
            if 0 <= index < pairs:
                first, second = nth_pair(sequence, index)
                self.same([station.partner_at(first), station.partner_at(second)], [second, first])
        for position in sorted({0, length // 7, length // 3, length - 1}):
            self.same(station.partner_at(position), partner_of(sequence, position))
        self.refuses(InvalidPosition, station.partner_at, length)

    def test_large_and_many_arrivals(self):
        for arrivals in LARGE_ARRIVALS:
            self.check_sequence(arrivals)

    def test_three_hundred_calls(self):
        station = Station()
        reports = []
        for at in range(50):
            reports.append(self.report(station))
            station.arrive('a', LARGEST)
            reports.append(self.report(station))
            station.give_up(at * 3, LARGEST // 2)
            reports.append(self.report(station))
            station.arrive('b', 2)
        self.same([len(station), station.give_up_count(), station.pair_total()], [150, 50 * (LARGEST // 2), 100])
        self.same(station.current_state(), ('a', 50 * (LARGEST // 2) - 100))
        while reports:
            station.undo()
            self.assertEqual(self.report(station), reports.pop())
        self.is_equal(station, Station())

    def test_giving_up_among_large_numbers(self):
        station = built([('arrive', 'a', LARGEST), ('arrive', 'b', 5), ('arrive', 'a', LARGEST)])
        self.same(station.give_up(0), 5)
        self.same(station.give_up(LARGEST - 7, 3), LARGEST - 1)
        self.same(station.waiting_positions(), [(6, LARGEST - 2), (LARGEST + 7, 2 * LARGEST + 4)])
        self.same(station.give_up(0, 2 * LARGEST - 9), 6)
        self.same([station.current_state(), station.waiting_positions(), station.give_up_count()],
                  [None, [], 2 * LARGEST - 5])
        self.same([station.partner_at(4), station.partner_at(5), station.partner_at(LARGEST)], [LARGEST + 4, None, 0])


class WrongInputs(StationCase):
    def setUp(self):
        self.station = built([('arrive', 'a', 5), ('arrive', 'b', 2), ('give_up', 1, 1)])
        self.before = self.report(self.station)

    def stays(self, error, function, *arguments):
        """Check that a call raises an error and changes nothing."""
        self.refuses(error, function, *arguments)
        self.assertEqual(self.report(self.station), self.before)

    def test_kinds(self):
        for value in WRONG_KINDS:
            self.stays(InvalidKind, self.station.arrive, value)
            self.stays(InvalidKind, self.station.arrive, value, 2)

    def test_numbers_of_items(self):
        for value in WRONG_COUNTS + [LARGEST + 1, 10 ** 39]:
            self.stays(InvalidNumber, self.station.arrive, 'a', value)
            self.stays(InvalidNumber, self.station.arrive, 'b', value)

    def test_giving_up(self):
        for value in WRONG_NUMBERS + [-1, -2, -LARGEST, 2, 3, LARGEST, 10 ** 39]:
            self.stays(InvalidNumber, self.station.give_up, value)
            self.stays(InvalidNumber, self.station.give_up, value, 1)
        for value in WRONG_COUNTS + [3, LARGEST, 10 ** 39]:
            self.stays(InvalidNumber, self.station.give_up, 0, value)
        for index, count in [(1, 2), (2, 0), (2, 1), (-1, 1), (-1, 3), (1, 0), (1, -1), (2, -1), (0, 3)]:
            self.stays(InvalidNumber, self.station.give_up, index, count)

    def test_positions(self):
        for value in WRONG_NUMBERS + [-1, 7, 8, LARGEST, -LARGEST]:
            self.stays(InvalidPosition, self.station.partner_at, value)

    def test_the_order_of_the_errors(self):
        for value in [0, True, None, LARGEST + 1]:
            self.stays(InvalidKind, self.station.arrive, 'A', value)
            self.stays(InvalidKind, self.station.arrive, None, value)

    def test_failed_calls_are_not_undone(self):
        self.refuses(InvalidNumber, self.station.give_up, 9)
        self.refuses(InvalidKind, self.station.arrive, 'A')
        self.station.undo()
        self.same(self.station.operations_done(), [('arrive', 'a', 5), ('arrive', 'b', 2)])


class KindsOfValues(StationCase):
    def test_results_are_exactly_of_the_stated_kind(self):
        station = built([('arrive', 'a', 3)])
        self.assertIs(type(station.current_state()), tuple)
        self.assertIs(type(station.waiting_positions()), list)
        self.assertIs(type(station.operations_done()), list)
        self.assertIs(type(len(station)), int)

    def test_returned_lists_are_new(self):
        station = built([('arrive', 'a', 3), ('give_up', 1, 1), ('arrive', 'b', 1)])
        self.gives_new_lists(station.waiting_positions, station.operations_done)
        before = self.report(station)
        twin = station.duplicate()
        for each in [station, twin]:
            each.waiting_positions().clear()
            each.operations_done().clear()
            each.waiting_positions().append((9, 9))
        self.assertEqual(self.report(station), before)
        station.undo()
        station.waiting_positions().append((9, 9))
        station.undo()
        self.same(station.waiting_positions(), [(0, 2)])
        self.assertEqual(self.report(twin), before)


if __name__ == '__main__':
    unittest.main()
