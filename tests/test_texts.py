"""The functions of unlikepairs.texts: [26] to [26c], with [2], [3], [4], [19] and [28]."""

import itertools
import re
import unittest

from tests.support import (
    LARGEST, LONGEST, S, WRONG_RECORDS, WRONG_SEQUENCES, WRONG_STATES, WRONG_STRINGS, ExactCase, all_items, grouped,
    mixed_items, shapes)
from unlikepairs.errors import InvalidRecord, InvalidSequence, InvalidState, InvalidText
from unlikepairs.records import record_of
from unlikepairs.sequences import is_sequence
from unlikepairs.texts import (
    format_record, format_sequence, format_state, parse_record, parse_sequence, parse_state)

HUGE = 10 ** 39

# Words without the form of a run, whatever the text.
WRONG_WORDS = [
    'A', 'aB', 'a1', '1', '0', '3*a', '*', '*3', 'a*', 'a**3', 'a*3*', 'a*3*4', 'a*x', 'a*3x', 'a*-3', 'a*+3', 'a*3.0',
    'a*3,000', 'a*1_000', 'a*0x3', 'a*3\n', 'a\n', '\na', 'a*\n3', 'a\nb', '\n', '\t', 'a\t', 'a*3e5', 'abcdefghi',
    'abcdefghi*3', '?', '+', 'a+', 'a-', '?-', '--', '-*3', '-3', 'a*a', 'a/3', 'a+3', "'a'", '(a,3)', '"', '~', '!',
    '{}', '\u00e9', '\u00df', 'a*\u0663', 'a*\u00b2', '\uff41', 'a*\uff13', 'a\u00a0', 'a*3\u2003', '\u0430',
    'a*\u0660',
]

# Words with the form of a run, but not the words of one.
OTHER_WORDS = ['a*0', 'a*1', 'a*00', 'a*01', 'a*007', 'a*03', 'ab*1', 'a*0000000000000000000000000000000000000009']

WRONG_ENTRY_WORDS = [
    'a', '?', '+', '-', '++', '+-', '-a', '+a', '?a+', 'a?+', '??+', 'A+', 'aB-', 'a1+', '1+', 'a++', 'a+-', 'a-+',
    'a--', 'a*2+', 'a+*2', 'a+2', 'abcdefghi+', 'abcdefghi-', '?+?', 'a+b-', 'a\n+', 'a+\n', '\n', '\n+', '+\n', 'a=',
    'a_', '*+', '*-', 'None+', '\u00e9+', 'a\u2212', 'a\uff0b', '\u0430+', 'awaits', 'a+,', '?--', '?\n-',
]


class TextCase(ExactCase):
    def wrong(self, function, text, index):
        """Check that a text is refused with an index."""
        self.same(self.refuses(InvalidText, function, text).index, index)


def plain_text(runs):
    """[26], the text of a sequence, written in another way."""
    text = ''
    for kind, count in runs:
        text += kind
        if count > 1:
            text += '*' + str(count)
        text += ' '
    return text[:-1]


class Examples(TextCase):
    def test_format_sequence(self):
        self.same(format_sequence(S), 'a*3 b c*4 a')

    def test_parse_record(self):
        self.same(parse_record('a+ ?- b+'), [('a', 'waits'), (None, 'leaves'), ('b', 'waits')])

    def test_parse_sequence(self):
        self.wrong(parse_sequence, 'a*3 B', 1)
        self.wrong(parse_sequence, 'a*1', None)


class Inverse(TextCase):
    def check_sequence(self, runs):
        text = format_sequence(runs)
        self.same(text, plain_text(runs))
        self.same(parse_sequence(text), runs)

    def test_sequences(self):
        for items in all_items('abc', 5):
            self.check_sequence(grouped(items))
        for step in range(1, 30):
            runs = grouped(mixed_items(['a', 'ab', 'abcdefgh', 'z'], 100, step))
            counts = mixed_items([1, 2, 10, 11, 100, LARGEST, LARGEST - 1, 1], len(runs), step)
            self.check_sequence([(kind, count) for (kind, each), count in zip(runs, counts)])

    def test_states(self):
        for kind in ['a', 'z', 'ab', 'abcdefgh']:
            self.same([format_state((kind, 1)), parse_state(kind)], [kind, (kind, 1)])
            for count in [2, 3, 9, 10, 11, 99, 100, LARGEST, LARGEST + 1, HUGE, HUGE - 1]:
                text = kind + '*' + str(count)
                self.same([format_state((kind, count)), parse_state(text)], [text, (kind, count)])
        self.same([format_state(None), parse_state('-')], ['-', None])

    def test_records(self):
        marks = {'waits': '+', 'leaves': '-'}
        entries = [(kind, action) for kind in [None, 'a', 'abcdefgh'] for action in ['waits', 'leaves']]
        for length in range(5):
            for record in itertools.product(entries, repeat=length):
                text = ' '.join([('?' if kind is None else kind) + marks[action] for kind, action in record])
                self.same([format_record(record), parse_record(text)], [text, list(record)])
        for step in range(1, 20):
            record = record_of(mixed_items('abcd', 20 * step, step))
            self.same(parse_record(format_record(record)), record)

    def check_all_texts(self, letters, longest, function, form, values):
        """Check all short texts: those of the values are parsed, the others are refused with their index."""
        for length in range(longest + 1):
            for text in map(''.join, itertools.product(letters, repeat=length)):
                if text in values:
                    self.same(function(text), values[text])
                    continue
                words = text.split(' ') if text else []
                wrong = [at for at, word in enumerate(words) if not re.fullmatch(form, word)]
                self.wrong(function, text, wrong[0] if wrong else None)

    def test_all_short_texts(self):
        kinds = [''.join(letters) for size in range(1, 6) for letters in itertools.product('ab', repeat=size)]
        counts = [count for count in range(1, 1000) if set(str(count)) <= set('012')]
        runs = [(kind, count) for kind in kinds for count in counts if len(plain_text([(kind, count)])) <= 5]
        states = {plain_text([run]): run for run in runs}
        sequences = [[]] + [[run] for run in runs] + [[one, other] for one in runs for other in runs]
        sequences += [list(three) for three in itertools.product([('a', 1), ('b', 1)], repeat=3)]
        self.check_all_texts('ab*12 0', 5, parse_sequence, '[a-z]{1,8}([*][0-9]+)?',
                             {plain_text(value): value for value in sequences if is_sequence(value)})
        self.check_all_texts('ab*12 0-', 4, parse_state, '-|[a-z]{1,8}([*][0-9]+)?', {**states, '-': None})

    def test_all_short_texts_of_records(self):
        kinds = [''.join(letters) for size in range(1, 5) for letters in itertools.product('ab', repeat=size)]
        words = {'?+': (None, 'waits'), '?-': (None, 'leaves')}
        for kind in kinds:
            words.update({kind + '+': (kind, 'waits'), kind + '-': (kind, 'leaves')})
        values = {one + ' ' + other: [words[one], words[other]] for one in words for other in words}
        values.update({word: [words[word]] for word in words})
        self.check_all_texts('ab?+- ', 5, parse_record, '([?]|[a-z]{1,8})[+-]', {**values, '': []})

    def test_short_texts_of_values_are_parsed(self):
        for runs in [grouped(items) for items in all_items('ab', 4)]:
            self.same(parse_sequence(plain_text(runs)), runs)


class Sequences(TextCase):
    def test_words_without_the_form(self):
        for word in WRONG_WORDS + ['-']:
            self.wrong(parse_sequence, word, 0)
            self.wrong(parse_sequence, 'b ' + word, 1)
            self.wrong(parse_sequence, 'b c*7 ' + word + ' c', 2)
            self.wrong(parse_sequence, word + ' ' + word, 0)

    def test_empty_words(self):
        for text, index in [(' ', 0), ('  ', 0), (' a', 0), ('a ', 1), ('a  b', 1), ('a b ', 2), (' a ', 0),
                            ('a*3  ', 1), ('a b  c', 2), (' ' * 500, 0)]:
            self.wrong(parse_sequence, text, index)

    def test_words_that_are_written_in_another_way(self):
        for word in OTHER_WORDS:
            self.wrong(parse_sequence, word, None)
            self.wrong(parse_sequence, 'b*2 ' + word, None)
            self.wrong(parse_sequence, word + ' b', None)

    def test_the_first_word_without_the_form_comes_first(self):
        for word in OTHER_WORDS:
            self.wrong(parse_sequence, word + ' B', 1)
            self.wrong(parse_sequence, 'b ' + word + '  ', 2)
        self.wrong(parse_sequence, 'a a a A B', 3)
        self.wrong(parse_sequence, 'a*' + str(LARGEST + 1) + ' ?', 1)
        self.wrong(parse_sequence, 'a b ' * 300 + 'A', 600)

    def test_neighbouring_runs_of_one_kind(self):
        for text in ['a a', 'a*3 a', 'a a*3', 'b a*2 a*2', 'a b b c', 'ab ab']:
            self.wrong(parse_sequence, text, None)
        self.same(parse_sequence('a aa a'), [('a', 1), ('aa', 1), ('a', 1)])

    def test_counts(self):
        self.same(parse_sequence('a*2'), [('a', 2)])
        self.same(parse_sequence('a*' + str(LARGEST)), [('a', LARGEST)])
        for count in [LARGEST + 1, 10 ** 31, HUGE, 10 ** 3900]:
            self.wrong(parse_sequence, 'a*' + str(count), None)
        self.wrong(parse_sequence, 'a*' + '9' * 6000, None)
        self.wrong(parse_sequence, 'a*' + '0' * 6000, None)

    def test_400_and_401_words(self):
        self.same(parse_sequence(' '.join(['a', 'b'] * 200)), [('a', 1), ('b', 1)] * 200)
        self.wrong(parse_sequence, ' '.join(['a', 'b'] * 200 + ['a']), None)
        self.wrong(parse_sequence, ' '.join(['a', 'b'] * 900), None)
        self.same(parse_sequence(format_sequence(LONGEST)), LONGEST)

    def test_the_empty_text(self):
        self.same([format_sequence([]), format_sequence(()), parse_sequence('')], ['', '', []])

    def test_kinds_of_one_and_of_eight_letters(self):
        self.same(parse_sequence('a abcdefgh z*2'), [('a', 1), ('abcdefgh', 1), ('z', 2)])
        self.wrong(parse_sequence, 'a abcdefghi z*2', 1)


class States(TextCase):
    def test_words_without_the_form(self):
        for word in WRONG_WORDS:
            self.wrong(parse_state, word, 0)
            self.wrong(parse_state, '- ' + word, 1)
            self.wrong(parse_state, 'a*3 - ' + word, 2)

    def test_no_words_and_several_words(self):
        for text in ['', '- -', 'a b', 'a -', '- a*3', 'a*3 a*3', 'a*1 b', 'a b c', ' '.join(['a'] * 500)]:
            self.wrong(parse_state, text, None)

    def test_empty_words(self):
        for text, index in [(' ', 0), (' a', 0), ('a ', 1), ('- ', 1), (' -', 0), ('a  b', 1), ('-  ', 1)]:
            self.wrong(parse_state, text, index)

    def test_words_that_are_written_in_another_way(self):
        for word in OTHER_WORDS:
            self.wrong(parse_state, word, None)
            self.wrong(parse_state, word + ' ' + word, None)
            self.wrong(parse_state, word + ' *', 1)

    def test_large_counts(self):
        text = 'a*' + '7' * 3990
        self.same(parse_state(text), ('a', int('7' * 3990)))
        self.same(format_state(parse_state(text)), text)
        self.wrong(parse_state, 'a*0' + '7' * 6000, None)
        self.wrong(parse_state, 'a*' + '7' * 6000 + ' -', None)
        self.wrong(parse_state, 'a*' + '7' * 6000 + ' +', 1)


class Records(TextCase):
    def test_words_without_the_form(self):
        for word in WRONG_ENTRY_WORDS:
            self.wrong(parse_record, word, 0)
            self.wrong(parse_record, 'a+ ' + word, 1)
            self.wrong(parse_record, '?- b- ' + word + ' c+', 2)

    def test_empty_words(self):
        for text, index in [(' ', 0), (' a+', 0), ('a+ ', 1), ('a+  b-', 1), ('a+ b- ', 2)]:
            self.wrong(parse_record, text, index)

    def test_400_and_401_words(self):
        self.same(parse_record(' '.join(['?+', 'a-'] * 200)), [(None, 'waits'), ('a', 'leaves')] * 200)
        self.wrong(parse_record, ' '.join(['?+', 'a-'] * 200 + ['?+']), None)
        self.wrong(parse_record, ' '.join(['?+', 'a-'] * 200 + ['?+', '?']), 401)
        self.same(len(format_record([(None, 'waits')] * 400)), 1199)

    def test_the_empty_text(self):
        self.same([format_record([]), format_record(()), parse_record('')], ['', '', []])

    def test_records_that_no_list_fits_have_texts(self):
        record = [('a', 'leaves'), ('a', 'waits'), ('zz', 'waits')]
        self.same([format_record(record), parse_record('a- a+ zz+')], ['a- a+ zz+', record])

    def test_more_than_twelve_kinds(self):
        record = [(kind, 'waits') for kind in 'abcdefghijklmnopqrstuvwxyz']
        self.same(parse_record(format_record(record)), record)


class WrongInputs(TextCase):
    def test_values_that_are_not_strings(self):
        for value in WRONG_STRINGS:
            for function in [parse_sequence, parse_state, parse_record]:
                self.wrong(function, value, None)

    def test_sequences(self):
        for value in WRONG_SEQUENCES:
            self.refuses(InvalidSequence, format_sequence, value)

    def test_states(self):
        for value in WRONG_STATES:
            self.refuses(InvalidState, format_state, value)

    def test_records(self):
        for value in WRONG_RECORDS:
            self.refuses(InvalidRecord, format_record, value)


class KindsOfValues(TextCase):
    def test_lists_and_tuples_at_every_level(self):
        for value in shapes(S):
            self.same(self.unchanged(format_sequence, value), 'a*3 b c*4 a')
        for value in shapes([('a', 'waits'), (None, 'leaves'), ('b', 'waits')]):
            self.same(self.unchanged(format_record, value), 'a+ ?- b+')
        for value in [('a', 2), ['a', 2]]:
            self.same(self.unchanged(format_state, value), 'a*2')

    def test_returned_lists_are_new(self):
        self.gives_new_lists(lambda: parse_sequence('a*3 b'), lambda: parse_record('a+ ?- b+'))
        for function in [parse_sequence, parse_record]:
            function('').append('more')
            self.same(function(''), [])

    def test_values_that_are_changed_are_judged_anew(self):
        runs, record = [['a', 2], ['b', 1]], [['a', 'waits']]
        self.same([format_sequence(runs), format_record(record)], ['a*2 b', 'a+'])
        runs[1][1] = 3
        record[0][0] = None
        self.same([format_sequence(runs), format_record(record)], ['a*2 b*3', '?+'])
        runs[1][0] = 'a'
        record[0][1] = 'stays'
        self.refuses(InvalidSequence, format_sequence, runs)
        self.refuses(InvalidRecord, format_record, record)


if __name__ == '__main__':
    unittest.main()
