"""What several test files need: exact comparison, and items that are kept one by one."""

import copy
import itertools
import unittest

LARGEST = 10 ** 30
S = [('a', 3), ('b', 1), ('c', 4), ('a', 1)]

# No kind, whatever is asked.
WRONG_KINDS = [
    None, True, False, 0, 1, '', 'A', 'aB', 'a1', 'a b', 'a ', ' a', 'a\n', '-', '?', 'a' * 9, 'abcdefghi',
    '`', '{', '\u00e9', '\u00df', '\u0430', '\uff41', '\u00aa', b'a', ['a'], ('a',), {'a': 1}, {'a'}, object(), str,
]

# No integer, whatever the range is.
WRONG_NUMBERS = [None, True, False, '0', '1', '', b'1', [], [1], (1,), {}, {1}, object(), int]

# No count of a run and no count of a state.
WRONG_COUNTS = WRONG_NUMBERS + [0, -1, -LARGEST]

WRONG_PAIRS = [
    True, False, 0, 1, 'a', 'a1', 'ab', b'ab', (), [], ('a',), (1,), ('a', 1, 1), ['a', 1, 'b', 1], (1, 'a'),
    {'a': 1}, {'a', 1}, {0: 'a', 1: 1}, (('a', 1),), [('a', 1)], object(), tuple,
]
WRONG_PAIRS = WRONG_PAIRS + [(kind, 1) for kind in WRONG_KINDS] + [('a', count) for count in WRONG_COUNTS]

WRONG_STATES = WRONG_PAIRS
WRONG_RUNS = WRONG_PAIRS + [None, ('a', LARGEST + 1), ('a', 10 ** 39)]

WRONG_SEQUENCES = [
    None, True, False, 0, 1, '', 'a', 'a*3', 'ab', b'', {}, {'a': 1}, set(), object(), list,
    ('a', 1), ['a', 1], iter([]), iter([('a', 1)]), range(0), {'a': 1}.items(), [[('a', 1)]],
    [('a', 3), ('a', 1)], (('a', 3), ('a', 1)), [('b', 1), ('a', 3), ['a', 1]], [('a', 1), ('b', 1), ('b', 1)],
    [('a', 1), ('b', 1)] * 200 + [('a', 1)],
    [('a', LARGEST + 1)], [('b', 1), ('a', LARGEST + 1)], [('a', LARGEST + 1), ('b', 1)],
]
WRONG_SEQUENCES = WRONG_SEQUENCES + [[run] for run in WRONG_RUNS]
WRONG_SEQUENCES = WRONG_SEQUENCES + [[('b', 2), run, ('b', 2)] for run in WRONG_RUNS]


class ExactCase(unittest.TestCase):
    """Comparisons that tell a list from a tuple and True from 1."""

    def same(self, got, wanted):
        self.assertEqual(repr(got), repr(wanted))

    def refuses(self, error, function, *arguments):
        """Check that a call raises exactly this error and modifies no argument."""
        before = repr(arguments)
        with self.assertRaises(ValueError) as caught:
            function(*arguments)
        self.assertIs(type(caught.exception), error, (function, arguments))
        self.assertEqual(repr(arguments), before)

    def unchanged(self, function, *arguments):
        """Return the result of a call that must not modify its arguments."""
        before = copy.deepcopy(arguments)
        result = function(*arguments)
        self.same(arguments, before)
        return result


def all_items(kinds, longest):
    """All lists of at most so many of the kinds."""
    return [list(items) for length in range(longest + 1) for items in itertools.product(kinds, repeat=length)]


def grouped(items):
    """The runs of a list of kinds."""
    return [(kind, len(list(group))) for kind, group in itertools.groupby(items)]


def queues(items, state=None):
    """The waiting items (kind, position) at all moments, by the rule [5] and nothing else.

    The items that wait at the beginning have no positions. No use is made of what [7] says.
    """
    queue = [] if state is None else [(state[0], None)] * state[1]
    moments = [list(queue)]
    for position, kind in enumerate(items):
        others = [at for at, waiting in enumerate(queue) if waiting[0] != kind]
        if others:
            del queue[others[0]]
        else:
            queue.append((kind, position))
        moments.append(list(queue))
    return moments


def state_of(queue):
    """The state of some waiting items."""
    kinds = sorted({kind for kind, position in queue})
    if len(kinds) > 1:
        raise AssertionError('items of different kinds wait')
    return (kinds[0], len(queue)) if kinds else None


def ranges_of(positions):
    """Ascending positions as few ranges (first, last)."""
    ranges = []
    for position in positions:
        if ranges and ranges[-1][1] == position - 1:
            ranges[-1] = (ranges[-1][0], position)
        else:
            ranges.append((position, position))
    return ranges


def shapes(runs):
    """A sequence as lists and tuples at both levels of nesting."""
    return [
        [tuple(run) for run in runs],
        [list(run) for run in runs],
        tuple([tuple(run) for run in runs]),
        tuple([list(run) for run in runs]),
        [list(run) if at % 2 else tuple(run) for at, run in enumerate(runs)],
    ]
