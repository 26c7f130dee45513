"""The functions of unlikepairs.records: [19] to [24], with [2], [3], [5], [7] and [28]."""

import functools
import itertools
import unittest

from tests.support import (
    LARGEST, WRONG_KIND_LISTS, WRONG_KINDS, WRONG_NUMBERS, WRONG_RECORDS, ExactCase, all_items, arrive, mixed_items,
    shapes)
from unlikepairs.errors import Contradiction, InvalidItems, InvalidKinds, InvalidNumber, InvalidRecord
from unlikepairs.records import certain_kinds, conflict_of, fitting_count, fitting_index, nth_fitting, record_of

AB = ['a', 'b']
ABC = ['a', 'b', 'c']
TWELVE = list('abcdefghijkl')
R = [(None, 'waits'), (None, 'leaves'), (None, 'waits'), ('b', 'leaves')]
UNKNOWN = [(None, 'waits'), (None, 'leaves')] * 200


def actions_of(items):
    """What each item does at its arrival, by the rule [5]."""
    queue = []
    return tuple(['waits' if arrive(queue, kind, at) is None else 'leaves' for at, kind in enumerate(items)])


@functools.lru_cache(maxsize=None)
def lists_by_actions(kinds, length):
    """All lists of so many of the kinds, given as a tuple, by what their items do, each time in ascending order."""
    lists = {}
    for items in itertools.product(kinds, repeat=length):
        lists.setdefault(actions_of(items), []).append(list(items))
    return lists


def fitting_lists(kinds, record):
    """All lists that fit, in ascending order, tried one by one."""
    lists = lists_by_actions(tuple(kinds), len(record)).get(tuple([action for kind, action in record]), [])
    return [items for items in lists if all([entry[0] in (None, item) for item, entry in zip(items, record)])]


def all_records(kinds, length):
    """All records of so many entries."""
    entries = [(kind, action) for kind in [None] + kinds for action in ['waits', 'leaves']]
    return [list(record) for record in itertools.product(entries, repeat=length)]


def levels(record):
    """The levels at all moments."""
    actions = [action for kind, action in record]
    return [actions[:at].count('waits') - actions[:at].count('leaves') for at in range(len(record) + 1)]


def applying(kinds, record, i):
    """The conflicts of [21] that apply to the entry i, with the words of the document, in their order."""
    level = levels(record)
    kind, action = record[i]
    if action == 'leaves' and level[i] == 0:
        return [('level', i)]
    first = max([at for at in range(i + 1) if level[at] == 0])
    epoch = range(first, i)
    known = [j for j in epoch if kind is not None and record[j][0] is not None]
    found = [('waits', j, i) for j in known if record[j][1] == action == 'waits' and record[j][0] != kind][:1]
    found += [('leaves', j, i) for j in known
              if sorted([record[j][1], action]) == ['leaves', 'waits'] and record[j][0] == kind][:1]
    part = record[first:i + 1]
    nobody_known = not [entry for entry in part if entry[1] == 'waits' and entry[0] is not None]
    every_kind_leaves = {entry[0] for entry in part if entry[1] == 'leaves'} >= set(kinds)
    if (nobody_known and every_kind_leaves) or (len(kinds) == 1 and action == 'leaves'):
        found.append(('all', first, i))
    return found


def conflict(kinds, record):
    """[21]: the first tuple for the first index for which no list fits, or None."""
    for i in range(len(record)):
        if not fitting_lists(kinds, record[:i + 1]):
            return applying(kinds, record, i)[0]
    return None


def certain(lists):
    """[23]: the kinds in which all of some lists agree."""
    return [column[0] if len(set(column)) == 1 else None for column in zip(*lists)]


def masked(record, step):
    """A record with some of its kinds unknown."""
    return [(None if (at * at + step) % 7 < 4 else kind, action) for at, (kind, action) in enumerate(record)]


class RecordCase(ExactCase):
    def check(self, kinds, record):
        lists = fitting_lists(kinds, record)
        wanted = conflict(kinds, record)
        self.same(conflict_of(kinds, record), wanted)
        self.same(fitting_count(kinds, record), len(lists))
        if lists:
            self.same(certain_kinds(kinds, record), certain(lists))
        else:
            self.same(self.refuses(Contradiction, certain_kinds, kinds, record).conflict, wanted)
        self.same([nth_fitting(kinds, record, index) for index in range(len(lists))], lists)
        self.same([fitting_index(kinds, record, items) for items in lists], list(range(len(lists))))
        self.refuses(InvalidNumber, nth_fitting, kinds, record, len(lists))
        self.refuses(InvalidNumber, nth_fitting, kinds, record, -1)


class Examples(ExactCase):
    def test_conflict_of(self):
        r = [('a', 'waits'), (None, 'waits'), ('a', 'leaves')]
        self.same([conflict_of(AB, r), conflict_of(AB, r[:2]), conflict_of(AB, r[2:])],
                  [('leaves', 0, 2), None, ('level', 0)])
        r = [(None, 'waits'), (None, 'waits'), ('a', 'leaves'), ('b', 'leaves')]
        self.same([conflict_of(['a', 'b'], r), conflict_of(['a', 'b', 'c'], r)], [('all', 0, 3), None])

    def test_fitting_count(self):
        self.same(fitting_count(['a', 'b', 'c'], R), 12)

    def test_nth_fitting(self):
        self.same(nth_fitting(['a', 'b', 'c'], R, 3), ['a', 'c', 'c', 'b'])

    def test_certain_kinds(self):
        r = [(None, 'waits'), ('b', 'leaves'), ('a', 'waits'), (None, 'leaves')]
        self.same([certain_kinds(['a', 'b'], r), certain_kinds(['a', 'b', 'c'], r)],
                  [['a', 'b', 'a', 'b'], [None, 'b', 'a', None]])

    def test_record_of(self):
        self.same(record_of(['a', 'a', 'b']), [('a', 'waits'), ('a', 'waits'), ('b', 'leaves')])


class OneByOne(RecordCase):
    """Against all lists of kinds, tried one by one."""

    def test_one_kind(self):
        for length in range(7):
            for record in all_records(['a'], length):
                self.check(['a'], record)

    def test_two_kinds(self):
        for length in range(6):
            for record in all_records(AB, length):
                self.check(AB, record)

    def test_three_kinds(self):
        for length in range(5):
            for record in all_records(ABC, length):
                self.check(ABC, record)

    def test_three_kinds_in_longer_records(self):
        for items in all_items(ABC, 5)[1::5]:
            for step in range(7):
                self.check(ABC, masked(record_of(items), step))

    def test_four_kinds(self):
        for step in range(1, 60):
            record = record_of(mixed_items('abcd', 6, step))
            for shift in range(3):
                self.check(list('abcd'), masked(record, step + shift))
            self.check(ABC + ['dd'], [(None, action) for kind, action in record[:5]])

    def test_longer_contradictory_records(self):
        for step in range(1, 250):
            kinds = mixed_items([None, 'a', None, 'b', 'c'], 7, step)
            actions = mixed_items(['waits', 'leaves', 'waits'], 7, step + 1)
            self.check(ABC, list(zip(kinds, actions)))
            self.check(ABC, [(None, 'waits'), (None, 'waits')] + list(zip(kinds, actions))[:5])

    def test_lists_that_do_not_fit(self):
        for length in range(4):
            for record in all_records(AB, length):
                lists = fitting_lists(AB, record)
                for items in all_items('abc', length + 1):
                    if items not in lists:
                        self.refuses(InvalidItems, fitting_index, AB, record, items)

    def test_the_first_entries_that_contradict(self):
        """Each prefix of a record before its conflict has none, and each later one has the same."""
        for step in range(1, 120):
            kinds = mixed_items([None, 'a', None, 'b', None, 'c'], 30, step)
            actions = mixed_items(['waits', 'waits', 'leaves'], 30, step)
            record = list(zip(kinds, actions))
            found = conflict_of(ABC, record)
            end = 30 if found is None else found[-1]
            for at in range(31):
                self.same(conflict_of(ABC, record[:at]), None if at <= end else found)
                self.same(fitting_count(ABC, record[:at]) > 0, at <= end)


class RecordOf(ExactCase):
    def test_small_lists(self):
        for items in all_items('abc', 7):
            self.same(record_of(items), list(zip(items, actions_of(items))))

    def test_longer_lists(self):
        for step in range(1, 30):
            for kinds in ['ab', 'aabcd', 'aaab', TWELVE]:
                items = mixed_items(kinds, 100 + 10 * step, step)
                self.same(record_of(items), list(zip(items, actions_of(items))))

    def test_the_record_of_a_list_fits_it(self):
        for step in range(1, 30):
            items = mixed_items('abcdd', 13 * step, step)
            record = record_of(items)
            self.same([conflict_of(list('abcd'), record), fitting_count(list('abcd'), record)], [None, 1])
            self.same([nth_fitting(list('abcd'), record, 0), certain_kinds(list('abcd'), record)], [items, items])
            self.same(fitting_index(list('abcd'), record, items), 0)
            for shift in range(3):
                part = masked(record, shift)
                index = fitting_index(list('abcd'), part, items)
                self.same(nth_fitting(list('abcd'), part, index), items)

    def test_edges(self):
        self.same([record_of([]), record_of(())], [[], []])
        self.same(record_of(['a'] * 400), [('a', 'waits')] * 400)
        self.same(record_of(['a', 'b'] * 200), [('a', 'waits'), ('b', 'leaves')] * 200)
        self.same(record_of(['abcdefgh']), [('abcdefgh', 'waits')])

    def test_wrong_items(self):
        wrong = [None, True, 0, 'ab', b'ab', {}, {'a': 1}, {'a'}, object(), list, iter('ab'), range(0), ['a'] * 401,
                 ('a',) * 401, [('a', 1)], [['a']], [('a', 'waits')]]
        for value in wrong + [[kind] for kind in WRONG_KINDS] + [['a', kind] for kind in WRONG_KINDS]:
            self.refuses(InvalidItems, record_of, value)


class Conflicts(ExactCase):
    """Each conflict of [21], also where several apply."""

    def check(self, kinds, record, wanted):
        self.same(conflict_of(kinds, record), wanted)
        self.same(applying(kinds, record, wanted[-1])[0], wanted)
        self.same(self.refuses(Contradiction, certain_kinds, kinds, record).conflict, wanted)
        self.same(conflict_of(kinds, record[:wanted[-1]]), None)
        self.same(fitting_count(kinds, record), 0)

    def test_level(self):
        self.check(AB, [(None, 'leaves')], ('level', 0))
        self.check(AB, [('a', 'leaves')], ('level', 0))
        self.check(['a'], [('a', 'leaves')], ('level', 0))
        self.check(AB, [(None, 'waits'), (None, 'leaves'), ('a', 'leaves'), (None, 'leaves')], ('level', 2))

    def test_waits(self):
        self.check(AB, [('a', 'waits'), ('b', 'waits')], ('waits', 0, 1))
        self.check(ABC, [(None, 'waits'), ('c', 'waits'), ('c', 'waits'), ('b', 'waits')], ('waits', 1, 3))
        self.check(ABC, [('a', 'waits'), ('b', 'leaves'), ('a', 'waits'), (None, 'waits'), ('c', 'waits')],
                   ('waits', 2, 4))

    def test_leaves(self):
        self.check(AB, [('a', 'waits'), ('a', 'leaves')], ('leaves', 0, 1))
        self.check(AB, [(None, 'waits'), (None, 'waits'), ('a', 'waits'), ('a', 'leaves')], ('leaves', 2, 3))
        self.check(AB, [(None, 'waits'), (None, 'waits'), ('a', 'leaves'), ('a', 'waits')], ('leaves', 2, 3))
        self.check(ABC, [(None, 'waits')] * 3 + [('b', 'leaves'), ('b', 'leaves'), ('b', 'waits')], ('leaves', 3, 5))

    def test_all_kinds_leave(self):
        self.check(AB, [(None, 'waits')] * 2 + [('a', 'leaves'), ('b', 'leaves')], ('all', 0, 3))
        self.check(AB, [(None, 'waits'), (None, 'leaves')] + [(None, 'waits')] * 3 + [('b', 'leaves'), ('a', 'leaves')],
                   ('all', 2, 6))
        self.check(ABC, [(None, 'waits')] * 4 + [('b', 'leaves'), (None, 'leaves'), ('a', 'leaves'), (None, 'waits'),
                                                 ('c', 'leaves')], ('all', 0, 8))

    def test_only_one_kind(self):
        self.check(['a'], [(None, 'waits'), (None, 'leaves')], ('all', 0, 1))
        self.check(['a'], [('a', 'waits'), (None, 'waits'), (None, 'leaves')], ('all', 0, 2))
        self.check(['a'], [(None, 'waits'), ('a', 'leaves')], ('all', 0, 1))

    def test_several_at_once(self):
        self.check(['a'], [('a', 'waits'), ('a', 'leaves')], ('leaves', 0, 1))
        self.check(['a'], [(None, 'waits'), ('a', 'waits'), ('a', 'leaves')], ('leaves', 1, 2))
        self.check(AB, [(None, 'waits'), ('a', 'waits'), ('b', 'leaves'), ('b', 'waits')], ('waits', 1, 3))
        self.check(AB, [('a', 'waits'), (None, 'waits'), ('b', 'leaves'), ('b', 'waits'), ('b', 'leaves')],
                   ('waits', 0, 3))
        self.check(AB, [('a', 'leaves'), ('a', 'waits'), ('a', 'leaves')], ('level', 0))

    def test_other_epochs_do_not_count(self):
        record = [('a', 'waits'), ('b', 'leaves'), ('b', 'waits'), ('a', 'leaves')]
        self.same([conflict_of(AB, record), certain_kinds(AB, record)], [None, ['a', 'b', 'b', 'a']])
        self.check(AB, record + [('a', 'waits'), ('a', 'leaves')], ('leaves', 4, 5))

    def test_an_epoch_that_does_not_end(self):
        self.check(AB, [('a', 'waits'), ('b', 'leaves'), (None, 'waits'), ('b', 'waits'), ('a', 'waits')],
                   ('waits', 3, 4))


class Edges(RecordCase):
    def test_the_empty_record(self):
        for kinds in [['a'], AB, TWELVE]:
            for record in [[], ()]:
                self.same([conflict_of(kinds, record), fitting_count(kinds, record), certain_kinds(kinds, record)],
                          [None, 1, []])
                self.same([nth_fitting(kinds, record, 0), fitting_index(kinds, record, [])], [[], 0])
                self.refuses(InvalidNumber, nth_fitting, kinds, record, 1)
                self.refuses(InvalidItems, fitting_index, kinds, record, ['a'])

    def test_one_kind(self):
        record = [(None, 'waits')] * 400
        self.same([fitting_count(['a'], record), certain_kinds(['a'], record)], [1, ['a'] * 400])
        self.same([nth_fitting(['a'], record, 0), fitting_index(['a'], record, ['a'] * 400)], [['a'] * 400, 0])
        self.same([fitting_count(['a'], UNKNOWN), conflict_of(['a'], UNKNOWN)], [0, ('all', 0, 1)])

    def test_twelve_kinds(self):
        self.same(fitting_count(TWELVE, [(None, 'waits')]), 12)
        self.same(fitting_count(TWELVE, [(None, 'waits'), (None, 'leaves')]), 132)
        self.same(fitting_count(TWELVE, [(None, 'waits')] * 12 + [(kind, 'leaves') for kind in TWELVE[:11]]), 1)
        record = [(None, 'waits')] * 12 + [(kind, 'leaves') for kind in TWELVE[1:]]
        self.same(certain_kinds(TWELVE, record), ['a'] * 12 + TWELVE[1:])
        self.same(conflict_of(TWELVE, record + [('a', 'leaves')]), ('all', 0, 23))
        self.same(nth_fitting(TWELVE, [(None, 'waits'), (None, 'leaves')], 131), ['l', 'k'])

    def test_400_and_401_entries(self):
        self.same(fitting_count(AB, UNKNOWN), 2 ** 200)
        self.same(nth_fitting(AB, UNKNOWN, 0), ['a', 'b'] * 200)
        for record in [UNKNOWN + [(None, 'waits')], [(None, 'waits')] * 401]:
            for function, more in [(conflict_of, []), (fitting_count, []), (nth_fitting, [0]),
                                   (fitting_index, [['a'] * 401]), (certain_kinds, [])]:
                self.refuses(InvalidRecord, function, AB, record, *more)

    def test_the_first_and_the_last_index(self):
        number = 132 ** 200
        self.same(fitting_count(TWELVE, UNKNOWN), number)
        self.same(nth_fitting(TWELVE, UNKNOWN, 0), ['a', 'b'] * 200)
        self.same(nth_fitting(TWELVE, UNKNOWN, number - 1), ['l', 'k'] * 200)
        self.same(fitting_index(TWELVE, UNKNOWN, ['l', 'k'] * 200), number - 1)
        self.same(nth_fitting(TWELVE, UNKNOWN, 11), ['a', 'b'] * 199 + ['b', 'a'])
        for index in [-1, number, number + 1, 10 ** 900]:
            self.refuses(InvalidNumber, nth_fitting, TWELVE, UNKNOWN, index)


class LongRecords(ExactCase):
    def check_inverse(self, kinds, record, numbers):
        total = fitting_count(kinds, record)
        before = None
        for index in sorted({0, total - 1} | {total * part // 101 for part in numbers}):
            items = nth_fitting(kinds, record, index)
            self.same(fitting_index(kinds, record, items), index)
            self.same(list(actions_of(items)), [action for kind, action in record])
            self.assertTrue(all([entry[0] in (None, item) for item, entry in zip(items, record)]))
            self.assertTrue(before is None or before < items)
            before = items

    def test_lists_and_indexes_are_inverse(self):
        for step in range(1, 25):
            kinds = TWELVE[:2 + step % 11]
            record = record_of(mixed_items(kinds, 400, step))
            self.check_inverse(kinds, masked(record, step), [1, 7, 50, 99])
            self.check_inverse(kinds, [(None, action) for kind, action in record], [3, 60, 98])

    def test_numbers_of_lists(self):
        self.same(fitting_count(TWELVE, [(None, 'waits')] * 200 + [(None, 'leaves')] * 200), 12 * 11 ** 200)
        self.same(fitting_count(TWELVE, [('c', 'waits')] * 200 + [(None, 'leaves')] * 200), 11 ** 200)
        self.same(fitting_count(TWELVE, [(None, 'waits')] * 200 + [('c', 'leaves')] + [(None, 'leaves')] * 199),
                  11 * 11 ** 199)

    def test_certain_kinds(self):
        self.same(certain_kinds(AB, [(None, 'waits')] * 200 + [('a', 'leaves')] + [(None, 'leaves')] * 199),
                  ['b'] * 200 + ['a'] * 200)
        self.same(certain_kinds(AB, UNKNOWN), [None] * 400)
        self.same(certain_kinds(AB, [(None, 'waits')] * 399 + [('b', 'waits')]), ['b'] * 400)
        self.same(certain_kinds(ABC, [('a', 'waits'), (None, 'leaves')] * 200), ['a', None] * 200)

    def test_a_conflict_at_the_end(self):
        self.same(conflict_of(AB, [('a', 'waits')] + [(None, 'waits')] * 398 + [('a', 'leaves')]), ('leaves', 0, 399))
        self.same(conflict_of(AB, UNKNOWN[:399] + [('a', 'leaves')]), None)
        self.same(conflict_of(AB, UNKNOWN[:398] + [(None, 'leaves')]), ('level', 398))


class WrongInputs(ExactCase):
    def calls(self, kinds, record):
        return [(conflict_of, kinds, record), (fitting_count, kinds, record), (nth_fitting, kinds, record, 0),
                (fitting_index, kinds, record, []), (certain_kinds, kinds, record)]

    def test_lists_of_kinds(self):
        for value in WRONG_KIND_LISTS:
            for record in [[], R]:
                for call in self.calls(value, record):
                    self.refuses(InvalidKinds, *call)

    def test_records(self):
        for value in WRONG_RECORDS:
            for call in self.calls(['a', 'b'], value):
                self.refuses(InvalidRecord, *call)

    def test_recorded_kinds_that_are_not_among_the_kinds(self):
        for record in [[('c', 'waits')], [('a', 'waits'), ('b', 'leaves'), ('c', 'waits')], [('aa', 'waits')],
                       [('a', 'leaves'), ('z', 'leaves')], [(None, 'waits'), ('ab', 'leaves')]]:
            for call in self.calls(AB, record):
                self.refuses(InvalidRecord, *call)

    def test_indexes(self):
        for value in WRONG_NUMBERS + [-1, 12, LARGEST, -LARGEST]:
            self.refuses(InvalidNumber, nth_fitting, ABC, R, value)
        for value in WRONG_NUMBERS + [-1, 0, 1]:
            self.refuses(InvalidNumber, nth_fitting, ABC, [(None, 'leaves')], value)
            self.refuses(InvalidNumber, nth_fitting, ['a'], UNKNOWN, value)

    def test_items(self):
        wrong = [None, True, 0, 'abab', b'abab', {}, {'a': 1}, {'a'}, object(), list, iter('abab'), range(4), [], ['a'],
                 ['a', 'b', 'a'], ['a', 'b', 'a', 'b', 'a'], ['a', 'a', 'a', 'b'], ['a', 'b', 'b', 'b'],
                 ['a', 'b', 'a', 'a'], ['d', 'b', 'a', 'b'], ['a', 'd', 'a', 'b'], ['a', 'b', 'd', 'b'],
                 [['a'], 'b', 'a', 'b'], ['a', ['b'], 'a', 'b'], [('a', 'b', 'a', 'b')], R, ['a'] * 401]
        wrong = wrong + [[kind, 'b', 'a', 'b'] for kind in WRONG_KINDS]
        wrong = wrong + [['a', kind, 'a', 'b'] for kind in WRONG_KINDS]
        for value in wrong + [['a', 'b', 'a', kind] for kind in WRONG_KINDS]:
            self.refuses(InvalidItems, fitting_index, ABC, R, value)
            if isinstance(value, list):
                self.refuses(InvalidItems, fitting_index, ABC, R, tuple(value))
        self.same(fitting_index(ABC, R, ['a', 'b', 'a', 'b']), 0)
        for record in [[(None, 'leaves')], [('a', 'waits'), ('a', 'leaves')]]:
            for items in [['a'], ['a', 'a'], ['a', 'b'], []]:
                self.refuses(InvalidItems, fitting_index, AB, record, items)

    def test_the_order_of_the_errors(self):
        for kinds in [[], ['b', 'a'], None, TWELVE + ['m']]:
            for record in [None, [('a', 'waits', 1)], [('z', 'waits')], [(None, 'waits')] * 401, [('a', 'leaves')]]:
                for call in self.calls(kinds, record):
                    self.refuses(InvalidKinds, *call)
                self.refuses(InvalidKinds, nth_fitting, kinds, record, -1)
                self.refuses(InvalidKinds, fitting_index, kinds, record, None)
        for record in [None, [('z', 'leaves')], [('a', 'leaves'), ('z', 'leaves')], [('a', 'leaves'), None]]:
            self.refuses(InvalidRecord, nth_fitting, AB, record, -1)
            self.refuses(InvalidRecord, nth_fitting, AB, record, True)
            self.refuses(InvalidRecord, fitting_index, AB, record, None)
            self.refuses(InvalidRecord, certain_kinds, AB, record)


class KindsOfValues(ExactCase):
    def test_lists_and_tuples_at_every_level(self):
        for kinds in [ABC, tuple(ABC)]:
            for record in shapes(R):
                self.same(self.unchanged(conflict_of, kinds, record), None)
                self.same(self.unchanged(fitting_count, kinds, record), 12)
                self.same(self.unchanged(nth_fitting, kinds, record, 3), ['a', 'c', 'c', 'b'])
                self.same(self.unchanged(certain_kinds, kinds, record), [None, None, None, 'b'])
                for items in [['a', 'c', 'c', 'b'], ('a', 'c', 'c', 'b')]:
                    self.same(self.unchanged(fitting_index, kinds, record, items), 3)
            for record in shapes([('a', 'waits'), ('a', 'leaves')]):
                self.same(self.unchanged(conflict_of, kinds, record), ('leaves', 0, 1))
                self.same(self.refuses(Contradiction, certain_kinds, kinds, record).conflict, ('leaves', 0, 1))
        for items in [['a', 'a', 'b'], ('a', 'a', 'b')]:
            self.same(self.unchanged(record_of, items), [('a', 'waits'), ('a', 'waits'), ('b', 'leaves')])

    def test_returned_lists_are_new(self):
        self.gives_new_lists(
            lambda: nth_fitting(ABC, R, 3), lambda: certain_kinds(ABC, R), lambda: record_of(['a', 'b']))
        for call in [lambda: nth_fitting(ABC, [], 0), lambda: certain_kinds(ABC, []), lambda: record_of([])]:
            call().append('more')
            self.same(call(), [])

    def test_values_that_are_changed_are_judged_anew(self):
        kinds, record = ['a', 'b'], [[None, 'waits'], [None, 'leaves']]
        self.same([fitting_count(kinds, record), certain_kinds(kinds, record)], [2, [None, None]])
        kinds.append('c')
        self.same(fitting_count(kinds, record), 6)
        record[1][0] = 'c'
        self.same([fitting_count(kinds, record), certain_kinds(kinds, record)], [2, [None, 'c']])
        record[0][0] = 'c'
        self.same(conflict_of(kinds, record), ('leaves', 0, 1))
        kinds.pop()
        self.refuses(InvalidRecord, conflict_of, kinds, record)
        record[1][1] = 'waves'
        self.refuses(InvalidRecord, conflict_of, ABC, record)


if __name__ == '__main__':
    unittest.main()
