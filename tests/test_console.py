"""The class of unlikepairs.console: [27], with [2], [3], [9e], [25] and [26]."""

import itertools
import unittest

from tests.support import (
    LARGE_ARRIVALS, LARGEST, WRONG_KINDS, WRONG_STRINGS, ExactCase, OneByOneStation, all_items, grouped,
    operations_from, ranges_of)
from unlikepairs.console import Console
from unlikepairs.errors import (
    InvalidCommand, InvalidKind, InvalidNumber, InvalidPosition, NothingToUndo, TooLong)
from unlikepairs.partners import pair_count, partner_of
from unlikepairs.sequences import joined, total_length
from unlikepairs.station import Station
from unlikepairs.texts import format_sequence, format_state
from unlikepairs.waiting import state_after, waiting_at

# Words that are not a decimal number without leading zeros.
WRONG_WORDS = [
    '-1', '+1', '00', '01', '007', '1_000', '1,000', '1.0', '1e3', '0x1', 'a', 'one', '1a', 'a1', '1\n', '\n1', '\n',
    '\t', '-0', '+0', '--1', '1-2', '*', '1*', 'None', '\u0661', '\u00b2', '\uff11', '1\u00a0', '0\u0660', '0b1', '1/1',
    '(1)',
]

# Lines that are wrong whatever has happened before.
WRONG_LINES = [
    '', ' ', '  ', '\n', 'x', 'arrive', 'arrive ', ' arrive', 'arrive  ', 'arrive  a', 'arrive a ', ' arrive a',
    'arrive  3', 'arrive a  3', 'arrive a 3 ', 'arrive a 3 3', 'arrive a b', 'arrive a 3 b', 'arrive 3 a', 'arrive\na',
    'arrive\ta', 'Arrive a', 'ARRIVE a', 'arrives a', 'arriv a', 'arrive,a', 'giveup', 'giveup ', 'giveup  0',
    'giveup 0 ', 'giveup a', 'giveup 0 a', 'giveup a 1', 'giveup 0 1 1', 'give_up 0', 'give up 0', 'giveup 0\n',
    'giveup\n0', 'Giveup 0', 'undo ', ' undo', 'undo 1', 'undo undo', 'undo\n', '\nundo', 'undo  ', 'Undo', 'state ',
    ' state', 'state a', 'state 0', 'state\n', 'State', 'waiting ', 'waiting 0', 'waiting\n', 'wait', 'partner',
    'partner ', 'partner  0', 'partner 0 ', 'partner a', 'partner 0 1', 'partner 0\n', 'partners 0', 'pairs ',
    'pairs 0', 'pairs\n', 'pair', 'arrivals ', 'arrivals 0', 'arrivals\n', 'arrival', 'sequence ', 'sequence a',
    'sequence\n', 'sequences', 'redo', 'help', 'W', 'N', '0', 'a', 'state state', 'pairs arrivals', '"undo"', 'undo;',
    'undo\n\n', 'undo\t',
]


def line_of(operation):
    """The command line of an operation of a station."""
    name, value, count = operation
    line = ('arrive ' if name == 'arrive' else 'giveup ') + str(value)
    return line if count == 1 else line + ' ' + str(count)


def text_of_ranges(ranges):
    """The result of waiting."""
    return ' '.join([str(first) + ('' if first == last else '-' + str(last)) for first, last in ranges]) or 'none'


def text_of_arrivals(operations):
    """The result of sequence, from items that are kept one by one."""
    items = [kind for name, kind, count in operations if name == 'arrive' for each in range(count)]
    return ' '.join([kind + ('' if count == 1 else '*' + str(count)) for kind, count in grouped(items)]) or 'empty'


class ConsoleCase(ExactCase):
    def told(self, console):
        """All that a console tells."""
        arrivals = console.execute('arrivals')
        return [console.execute(line) for line in ['state', 'waiting', 'pairs', 'sequence']] + [arrivals] + [
            console.execute('partner ' + str(at)) for at in range(min(60, int(arrivals)))]

    def check(self, console, model):
        """Check everything that a console tells."""
        state = 'none' if not model.queue else model.queue[0][0]
        number = len(model.queue)
        self.same(console.execute('state'), '-' if not number else state + ('' if number == 1 else '*' + str(number)))
        self.same(console.execute('waiting'), text_of_ranges(ranges_of([position for kind, position in model.queue])))
        self.same(console.execute('pairs'), str(model.pairs))
        self.same(console.execute('arrivals'), str(len(model.partners)))
        self.same(console.execute('sequence'), text_of_arrivals(model.operations))
        self.same([console.execute('partner ' + str(at)) for at in range(len(model.partners))],
                  ['none' if partner is None else str(partner) for partner in model.partners])


class Examples(ConsoleCase):
    def test_lines(self):
        c = Console()
        self.same([c.execute('arrive a 3'), c.execute('arrive b'), c.execute('waiting'), c.execute('partner 3'),
                   c.execute('sequence')], ['0', '1', '1-2', '0', 'a*3 b'])


class OneByOne(ConsoleCase):
    def test_arrivals(self):
        for items in all_items('abc', 5):
            console, model = Console(), OneByOneStation()
            for kind in items:
                self.same(console.execute('arrive ' + kind), str(model.do(('arrive', kind, 1))))
            self.check(console, model)

    def test_all_operations_in_any_order(self):
        for step in range(1, 40):
            console, model = Console(), OneByOneStation()
            for operation in operations_from(step, 40, 6):
                if operation == 'undo':
                    self.same(console.execute('undo'), 'ok')
                    model = model.undone()
                else:
                    self.same(console.execute(line_of(operation)), str(model.do(operation)))
                self.check(console, model)

    def test_as_a_station(self):
        for step in range(1, 20):
            console, station = Console(), Station()
            for operation in operations_from(step + 40, 60, 9):
                if operation == 'undo':
                    console.execute('undo')
                    station.undo()
                else:
                    result = getattr(station, operation[0])(*operation[1:])
                    self.same(console.execute(line_of(operation)), str(result))
                self.same(console.execute('state'), format_state(station.current_state()))
                self.same(console.execute('waiting'), text_of_ranges(station.waiting_positions()))
                self.same([console.execute('pairs'), console.execute('arrivals')],
                          [str(station.pair_total()), str(station.arrival_count())])


class Lines(ConsoleCase):
    """Every line of the table."""

    def test_arrive(self):
        c = Console()
        self.same([c.execute('arrive a'), c.execute('arrive a 3'), c.execute('arrive bb 2')], ['0', '0', '2'])
        self.same([c.execute('arrive abcdefgh 10'), c.execute('state')], ['2', 'abcdefgh*8'])

    def test_giveup(self):
        c = Console()
        c.execute('arrive a 9')
        self.same([c.execute('giveup 3'), c.execute('giveup 3'), c.execute('giveup 0 2')], ['3', '4', '0'])
        self.same([c.execute('waiting'), c.execute('giveup 0 5'), c.execute('waiting')], ['2 5-8', '2', 'none'])

    def test_undo(self):
        c = Console()
        c.execute('arrive a 9')
        c.execute('giveup 3')
        self.same([c.execute('undo'), c.execute('waiting'), c.execute('undo'), c.execute('waiting')],
                  ['ok', '0-8', 'ok', 'none'])
        self.refuses(NothingToUndo, c.execute, 'undo')

    def test_state(self):
        c = Console()
        self.same(c.execute('state'), '-')
        c.execute('arrive a')
        self.same(c.execute('state'), 'a')
        c.execute('arrive a 1')
        self.same(c.execute('state'), 'a*2')

    def test_waiting(self):
        c = Console()
        self.same(c.execute('waiting'), 'none')
        c.execute('arrive a')
        self.same(c.execute('waiting'), '0')
        c.execute('arrive a')
        self.same(c.execute('waiting'), '0-1')
        c.execute('arrive a 5')
        c.execute('giveup 1')
        c.execute('giveup 3 2')
        self.same(c.execute('waiting'), '0 2-3 6')

    def test_partner(self):
        c = Console()
        c.execute('arrive a 2')
        c.execute('arrive b')
        self.same([c.execute('partner 0'), c.execute('partner 1'), c.execute('partner 2')], ['2', 'none', '0'])
        c.execute('giveup 0')
        self.same(c.execute('partner 1'), 'none')

    def test_pairs_and_arrivals(self):
        c = Console()
        self.same([c.execute('pairs'), c.execute('arrivals')], ['0', '0'])
        c.execute('arrive a 5')
        c.execute('arrive b 3')
        c.execute('giveup 0 2')
        self.same([c.execute('pairs'), c.execute('arrivals')], ['3', '8'])

    def test_sequence(self):
        c = Console()
        self.same(c.execute('sequence'), 'empty')
        for line in ['arrive a', 'arrive a 2', 'giveup 1', 'arrive a', 'arrive b 2', 'undo', 'arrive b', 'arrive a']:
            c.execute(line)
        self.same(c.execute('sequence'), 'a*4 b a')

    def test_each_console_has_a_station_of_its_own(self):
        one, other = Console(), Console()
        one.execute('arrive a 2')
        self.same([one.execute('state'), other.execute('state')], ['a*2', '-'])
        other.execute('arrive b')
        self.same([one.execute('sequence'), other.execute('sequence')], ['a*2', 'b'])


class LargeNumbers(ConsoleCase):
    def check_sequence(self, runs):
        """A console tells of its arrivals what the functions tell of their sequence."""
        console = Console()
        sequence = []
        for kind, count in runs:
            console.execute('arrive ' + kind + ' ' + str(count))
            sequence = joined(sequence, [(kind, count)])
        length = total_length(sequence)
        self.same(console.execute('sequence'), format_sequence(sequence))
        self.same(console.execute('state'), format_state(state_after(sequence)))
        self.same(console.execute('waiting'), text_of_ranges(waiting_at(sequence, length)))
        self.same([console.execute('pairs'), console.execute('arrivals')], [str(pair_count(sequence)), str(length)])
        for position in sorted({0, length // 7, length // 3, length - 1}):
            partner = partner_of(sequence, position)
            self.same(console.execute('partner ' + str(position)), 'none' if partner is None else str(partner))
        self.refuses(InvalidPosition, console.execute, 'partner ' + str(length))

    def test_large_and_many_arrivals(self):
        for arrivals in LARGE_ARRIVALS:
            self.check_sequence(arrivals)

    def test_counts_of_1_and_of_10_to_the_30(self):
        c = Console()
        self.same([c.execute('arrive a 1'), c.execute('arrive a 1' + '0' * 30)], ['0', '0'])
        self.same(c.execute('state'), 'a*1' + '0' * 29 + '1')
        self.refuses(InvalidNumber, c.execute, 'arrive a 1' + '0' * 29 + '1')
        self.refuses(InvalidNumber, c.execute, 'arrive a 0')
        self.same(c.execute('arrivals'), '1' + '0' * 29 + '1')

    def test_a_run_that_is_too_long(self):
        c = Console()
        c.execute('arrive a ' + str(LARGEST))
        self.same(c.execute('sequence'), 'a*' + str(LARGEST))
        c.execute('arrive a')
        self.refuses(TooLong, c.execute, 'sequence')
        self.same([c.execute('state'), c.execute('waiting')], ['a*' + str(LARGEST + 1), '0-' + str(LARGEST)])
        c.execute('arrive b')
        self.refuses(TooLong, c.execute, 'sequence')
        for each in range(2):
            c.execute('undo')
        self.same(c.execute('sequence'), 'a*' + str(LARGEST))
        c.execute('giveup 0 ' + str(LARGEST))
        c.execute('arrive a 5')
        self.refuses(TooLong, c.execute, 'sequence')

    def test_400_and_401_runs(self):
        c = Console()
        for at in range(400):
            c.execute('arrive ' + 'ab'[at % 2])
        self.same(c.execute('sequence'), ' '.join(['a', 'b'] * 200))
        c.execute('arrive b')
        self.same(c.execute('sequence'), ' '.join(['a', 'b'] * 200) + '*2')
        c.execute('arrive a')
        self.refuses(TooLong, c.execute, 'sequence')
        self.same([c.execute('arrivals'), c.execute('pairs'), c.execute('state')], ['402', '201', '-'])

    def test_numbers_of_many_digits(self):
        c = Console()
        c.execute('arrive a 3')
        for digits in ['9' * 40, '9' * 3900, '9' * 6000]:
            self.refuses(InvalidNumber, c.execute, 'arrive a ' + digits)
            self.refuses(InvalidNumber, c.execute, 'giveup ' + digits)
            self.refuses(InvalidNumber, c.execute, 'giveup 0 ' + digits)
            self.refuses(InvalidPosition, c.execute, 'partner ' + digits)
            self.refuses(InvalidCommand, c.execute, 'partner 0' + digits)
            self.refuses(InvalidCommand, c.execute, 'undo ' + digits)
        self.same(c.execute('waiting'), '0-2')


class WrongInputs(ConsoleCase):
    def setUp(self):
        self.console = Console()
        for line in ['arrive a 5', 'arrive b 2', 'giveup 1']:
            self.console.execute(line)
        self.before = self.told(self.console)

    def stays(self, error, line):
        """Check that a line raises an error and changes nothing, also nothing that can be undone."""
        self.refuses(error, self.console.execute, line)
        self.same(self.told(self.console), self.before)

    def test_values_that_are_not_strings(self):
        for value in WRONG_STRINGS:
            self.stays(InvalidCommand, value)
            self.refuses(InvalidCommand, Console().execute, value)

    def test_lines(self):
        for line in WRONG_LINES:
            self.stays(InvalidCommand, line)
            self.refuses(InvalidCommand, Console().execute, line)

    def test_numbers(self):
        for word in WRONG_WORDS:
            for line in ['arrive a ', 'arrive A ', 'giveup ', 'giveup 0 ', 'giveup 99 ', 'partner ']:
                self.stays(InvalidCommand, line + word)
            self.stays(InvalidCommand, 'giveup ' + word + ' 1')

    def test_empty_words_between_words(self):
        for words in itertools.product(['arrive', 'giveup', 'partner', 'undo', 'state', '', '0'], repeat=3):
            if '' in words:
                self.stays(InvalidCommand, ' '.join(words))

    def test_kinds(self):
        words = [kind for kind in WRONG_KINDS if isinstance(kind, str) and kind != '' and ' ' not in kind]
        for word in words + ['\n', 'a\nb', 'a\n3', '\na', '0', '3', '00', '*', 'a*2', 'Undo', 'abcdefghi']:
            for number in ['', ' 2', ' 0', ' 9' + '0' * 35]:
                self.stays(InvalidKind, 'arrive ' + word + number)
            self.stays(InvalidCommand, 'arrive ' + word + ' 02')
        self.same([self.console.execute('arrive arrive'), self.console.execute('arrive undo 2')], ['1', '1'])

    def test_errors_of_the_station(self):
        for line in ['arrive a 0', 'arrive a ' + str(LARGEST + 1), 'giveup 2', 'giveup 0 3', 'giveup 0 0', 'giveup 1 2',
                     'giveup 99 0', 'giveup 1 0', 'giveup ' + str(LARGEST)]:
            self.stays(InvalidNumber, line)
        for line in ['partner 7', 'partner 8', 'partner ' + str(LARGEST)]:
            self.stays(InvalidPosition, line)

    def test_a_new_console(self):
        c = Console()
        self.refuses(NothingToUndo, c.execute, 'undo')
        self.refuses(InvalidNumber, c.execute, 'giveup 0')
        self.refuses(InvalidPosition, c.execute, 'partner 0')
        self.refuses(InvalidKind, c.execute, 'arrive A')
        self.same(self.told(c), ['-', 'none', '0', 'empty', '0'])

    def test_failed_lines_are_not_undone(self):
        for line in ['arrive A', 'giveup 9', 'arrive a 0', 'nothing', 'partner 99']:
            self.assertRaises(ValueError, self.console.execute, line)
        self.same([self.console.execute('undo'), self.console.execute('waiting')], ['ok', '2-4'])

    def test_lines_that_only_ask_are_not_undone(self):
        for line in ['state', 'waiting', 'partner 0', 'pairs', 'arrivals', 'sequence']:
            self.console.execute(line)
        self.same([self.console.execute('undo'), self.console.execute('waiting')], ['ok', '2-4'])


if __name__ == '__main__':
    unittest.main()
