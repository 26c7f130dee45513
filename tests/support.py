"""What several test files need: exact comparison, and items that are kept one by one."""

import copy
import functools
import itertools
import unittest

LARGEST = 10 ** 30
S = [('a', 3), ('b', 1), ('c', 4), ('a', 1)]
LONGEST = [('a', LARGEST), ('b', LARGEST)] * 200

# No kind, whatever is asked.
WRONG_KINDS = [
    None, True, False, 0, 1, '', 'A', 'aB', 'a1', 'a b', 'a ', ' a', 'a\n', '-', '?', 'a' * 9, 'abcdefghi',
    '`', '{', '\u00e9', '\u00df', '\u0430', '\uff41', '\u00aa', b'a', ['a'], ('a',), {'a': 1}, {'a'}, object(), str,
]

# No integer, whatever the range is.
WRONG_NUMBERS = [None, True, False, '0', '1', '', b'1', [], [1], (1,), {}, {1}, object(), int]

# No count of a run and no count of a state.
WRONG_COUNTS = WRONG_NUMBERS + [0, -1, -LARGEST]

WRONG_PAIRS = [
    True, False, 0, 1, 'a', 'a1', 'ab', b'ab', (), [], ('a',), (1,), ('a', 1, 1), ['a', 1, 'b', 1], (1, 'a'),
    {'a': 1}, {'a', 1}, {0: 'a', 1: 1}, (('a', 1),), [('a', 1)], object(), tuple,
]
WRONG_PAIRS = WRONG_PAIRS + [(kind, 1) for kind in WRONG_KINDS] + [('a', count) for count in WRONG_COUNTS]

WRONG_STATES = WRONG_PAIRS
WRONG_RUNS = WRONG_PAIRS + [None, ('a', LARGEST + 1), ('a', 10 ** 39)]

WRONG_SEQUENCES = [
    None, True, False, 0, 1, '', 'a', 'a*3', 'ab', b'', {}, {'a': 1}, set(), object(), list,
    ('a', 1), ['a', 1], iter([]), iter([('a', 1)]), range(0), {'a': 1}.items(), [[('a', 1)]],
    [('a', 3), ('a', 1)], (('a', 3), ('a', 1)), [('b', 1), ('a', 3), ['a', 1]], [('a', 1), ('b', 1), ('b', 1)],
    [('a', 1), ('b', 1)] * 200 + [('a', 1)],
    [('a', LARGEST + 1)], [('b', 1), ('a', LARGEST + 1)], [('a', LARGEST + 1), ('b', 1)],
]
WRONG_SEQUENCES = WRONG_SEQUENCES + [[run] for run in WRONG_RUNS]
WRONG_SEQUENCES = WRONG_SEQUENCES + [[('b', 2), run, ('b', 2)] for run in WRONG_RUNS]

# Sequences, but of more than 400 items.
LONG_SEQUENCES = [
    [('a', 401)], [('a', 400), ('b', 1)], [('a', 1), ('b', 400)], [('a', 1), ('b', 1)] * 199 + [('a', 2), ('b', 1)],
    [('a', LARGEST)], LONGEST,
]

# No list of kinds to choose from.
WRONG_KIND_LISTS = [
    None, True, False, 0, 1, '', 'a', 'abc', b'abc', [], (), {}, {'a': 1}, {'a'}, iter(['a']), range(0), object(), list,
    ['b', 'a'], ('b', 'a'), ['a', 'a'], ['a', 'b', 'b'], ['a', 'c', 'b'], ['a', 'b', 'ab'], ['aa', 'a'], [['a']],
    list('abcdefghijklm'), tuple('abcdefghijklm'), ['a'] * 13,
]
WRONG_KIND_LISTS = WRONG_KIND_LISTS + [[kind] for kind in WRONG_KINDS] + [['a', kind] for kind in WRONG_KINDS]

# No counts of kinds.
WRONG_COUNT_LISTS = [
    None, True, False, 0, 1, '', 'a', 'a*3', b'', {}, {'a': 1}, set(), object(), list, iter([]), range(0),
    ('a', 1), ['a', 1], {'a': 1}.items(), [[('a', 1)]], [('a', 3), ('a', 1)], [('b', 1), ('a', 1)],
    (('b', 1), ('a', 1)), [('a', 1), ('c', 1), ('b', 1)], [('aa', 1), ('a', 1)], [('a', 1), ('b', 1), ('b', 1)],
    [(kind, 1) for kind in 'abcdefghijklm'], tuple([(kind, 1) for kind in 'abcdefghijklm']),
]
WRONG_COUNT_LISTS = WRONG_COUNT_LISTS + [[run] for run in WRONG_RUNS]
WRONG_COUNT_LISTS = WRONG_COUNT_LISTS + [[('a', 2), run] for run in WRONG_RUNS]
WRONG_COUNT_LISTS = WRONG_COUNT_LISTS + [[run, ('z', 2)] for run in WRONG_RUNS]

# No entry of a record.
WRONG_ENTRIES = [
    None, True, 0, 1, '', 'a', 'a+', 'waits', b'a+', [], (), {}, {'a': 'waits'}, {'a', 'waits'}, object(), tuple,
    ('a',), ('waits',), ('a', 'waits', 'waits'), ('waits', 'a'), ('waits', None), ('a', ''), ('a', 'wait'),
    ('a', 'Waits'), ('a', 'leaves '), ('a', ' waits'), ('a', 'waits\n'), ('a', '+'), ('a', '-'), ('a', None),
    ('a', True), ('a', 1), ('a', b'waits'), ('a', ['waits']), ('a', ('waits',)), ('a', 'w'), ('a', 'waitsleaves'),
    (('a', 'waits'),), [('a', 'waits')], (('a',), 'waits'), ('?', 'waits'), {0: 'a', 1: 'waits'}, range(2),
]
WRONG_ENTRIES = WRONG_ENTRIES + [(kind, 'waits') for kind in WRONG_KINDS if kind is not None]

# No record.
WRONG_RECORDS = [
    None, True, False, 0, 1, '', 'a', 'a+', b'', {}, {'a': 'waits'}, set(), object(), list, iter([]), range(0),
    ('a', 'waits'), ['a', 'waits'], (None, 'waits'), [[('a', 'waits')]], {'a': 'waits'}.items(),
    [(None, 'waits')] * 401, [('a', 'waits'), ('b', 'leaves')] * 200 + [(None, 'waits')], ((None, 'waits'),) * 401,
]
WRONG_RECORDS = WRONG_RECORDS + [[entry] for entry in WRONG_ENTRIES]
WRONG_RECORDS = WRONG_RECORDS + [[(None, 'waits'), entry, (None, 'waits')] for entry in WRONG_ENTRIES]

# No strings.
WRONG_STRINGS = [
    None, True, False, 0, 1, 10 ** 39, b'', b'a', b'undo', [], ['a'], ('a',), (), {}, {'a': 1}, {'a'}, object(), str, S,
]


class ExactCase(unittest.TestCase):
    """Comparisons that tell a list from a tuple and True from 1."""

    def same(self, got, wanted):
        self.assertEqual(repr(got), repr(wanted))

    def refuses(self, error, function, *arguments):
        """Check that a call raises exactly this error and modifies no argument. Returns the error."""
        before = repr(arguments)
        with self.assertRaises(ValueError) as caught:
            function(*arguments)
        self.assertIs(type(caught.exception), error, (function, arguments))
        self.assertEqual(repr(arguments), before)
        return caught.exception

    def unchanged(self, function, *arguments):
        """Return the result of a call that must not modify its arguments."""
        before = copy.deepcopy(arguments)
        result = function(*arguments)
        self.same(arguments, before)
        return result

    def gives_new_lists(self, *calls):
        """Check that what is done to a returned list has no effect on later results."""
        for call in calls:
            result = call()
            wanted = repr(result)
            self.assertIs(type(result), list)
            result.append('more')
            result[0] = 'other'
            self.assertEqual(repr(call()), wanted)


def all_items(kinds, longest):
    """All lists of at most so many of the kinds."""
    return [list(items) for length in range(longest + 1) for items in itertools.product(kinds, repeat=length)]


def grouped(items):
    """The runs of a list of kinds."""
    return [(kind, len(list(group))) for kind, group in itertools.groupby(items)]


def mixed_items(kinds, length, step):
    """A list of so many of the kinds, another one for each step, without much of a pattern."""
    return [kinds[(at * at * step + at // 3 + step) % 101 % len(kinds)] for at in range(length)]


def arrive(queue, kind, position):
    """Let one item arrive, by the rule [5] and nothing else. Returns the item with which it leaves, or None.

    The queue holds the waiting items (kind, position). No use is made of what [7] says.
    """
    others = [at for at, waiting in enumerate(queue) if waiting[0] != kind]
    if others:
        return queue.pop(others[0])
    queue.append((kind, position))
    return None


def queue_of(state):
    """The waiting items of a state, which have no positions."""
    return [] if state is None else [(state[0], None)] * state[1]


def queues(items, state=None):
    """The waiting items (kind, position) at all moments."""
    queue = queue_of(state)
    moments = [list(queue)]
    for position, kind in enumerate(items):
        arrive(queue, kind, position)
        moments.append(list(queue))
    return moments


def leaving_pairs(items):
    """The pairs of positions in the order in which they leave."""
    queue = []
    pairs = []
    for position, kind in enumerate(items):
        partner = arrive(queue, kind, position)
        if partner is not None:
            pairs.append((partner[1], position))
    return pairs


def effect(items, state):
    """The state after the arrival of some items."""
    queue = queue_of(state)
    for kind in items:
        arrive(queue, kind, None)
    return state_of(queue)


def state_of(queue):
    """The state of some waiting items."""
    kinds = sorted({kind for kind, position in queue})
    if len(kinds) > 1:
        raise AssertionError('items of different kinds wait')
    return (kinds[0], len(queue)) if kinds else None


def waiting_items(kind, number):
    """The state of so many waiting items of a kind."""
    return (kind, number) if number else None


def number_of(state):
    """The number of waiting items of a state."""
    return 0 if state is None else state[1]


def times(state, factor):
    """The state with so many times as many waiting items."""
    return None if state is None else (state[0], state[1] * factor)


def multiplied(runs, factor):
    """The runs with all counts multiplied."""
    return [(kind, count * factor) for kind, count in runs]


def ranges_of(positions):
    """Ascending positions as few ranges (first, last)."""
    ranges = []
    for position in positions:
        if ranges and ranges[-1][1] == position - 1:
            ranges[-1] = (ranges[-1][0], position)
        else:
            ranges.append((position, position))
    return ranges


def shapes(runs):
    """A sequence as lists and tuples at both levels of nesting."""
    return [
        [tuple(run) for run in runs],
        [list(run) for run in runs],
        tuple([tuple(run) for run in runs]),
        tuple([list(run) for run in runs]),
        [list(run) if at % 2 else tuple(run) for at, run in enumerate(runs)],
    ]


def all_counts(kinds, most):
    """All counts of at most so many items of each of the kinds."""
    return [tuple([(kind, count) for kind, count in zip(kinds, numbers) if count])
            for numbers in itertools.product(range(most + 1), repeat=len(kinds))]


def all_orders(counts):
    """All orders of some counts, in ascending order."""
    if not counts:
        return [[]]
    orders = []
    for kind, count in counts:
        left = [(each, number - (each == kind)) for each, number in counts]
        orders.extend([[kind] + rest for rest in all_orders([entry for entry in left if entry[1]])])
    return orders


@functools.lru_cache(maxsize=None)
def orders_by_state(counts):
    """All orders of some counts, given as a tuple, by the states to which they lead, each list in ascending order."""
    orders = {}
    for items in all_orders(counts):
        orders.setdefault(effect(items, None), []).append(items)
    return orders


# Every number of items from 0 to 9, with one to four kinds.
SMALL_COUNTS = sorted(set(all_counts('abc', 3) + all_counts('abcd', 2) + all_counts('ab', 4) + all_counts('a', 6)))


class OneByOneStation:
    """A station that keeps its items one by one, and undoes by beginning again."""

    def __init__(self, operations=()):
        self.queue = []
        self.partners = []
        self.pairs = 0
        self.given_up = 0
        self.operations = []
        for operation in operations:
            self.do(operation)

    def do(self, operation):
        name, value, count = operation
        result = self.arrive(value, count) if name == 'arrive' else self.give_up(value, count)
        self.operations.append(operation)
        return result

    def arrive(self, kind, count):
        before = self.pairs
        for each in range(count):
            position = len(self.partners)
            partner = arrive(self.queue, kind, position)
            self.partners.append(None if partner is None else partner[1])
            if partner is not None:
                self.partners[partner[1]] = position
                self.pairs += 1
        return self.pairs - before

    def give_up(self, index, count):
        positions = [position for kind, position in self.queue[index:index + count]]
        del self.queue[index:index + count]
        self.given_up += count
        return positions[0]

    def undone(self):
        return OneByOneStation(self.operations[:-1])


def operations_from(step, number, most):
    """So many operations and the word undo, without much of a pattern, another list for each step."""
    operations = []
    model = OneByOneStation()
    for at in range(number):
        choice = (at * at * step + at // 2 + 3 * step) % 23
        if choice == 5 and model.operations:
            operations.append('undo')
            model = model.undone()
            continue
        if choice < 4 and model.queue:
            index = (at * step) % len(model.queue)
            count = 1 + (at + step) % min(most, len(model.queue) - index)
            operations.append(('give_up', index, count))
        else:
            operations.append(('arrive', 'aabca'[(choice + at // 7) % 5], 1 + (choice * at) % most))
        model.do(operations[-1])
    return operations


# Arrivals (kind, count), also of the same kind one after the other, and up to three hundred of them.
LARGE_ARRIVALS = [S, LONGEST[:300], [('a', LARGEST), ('b', 1)] * 150, [('a', 1)] * 300]
LARGE_ARRIVALS = LARGE_ARRIVALS + [([('a', 2), ('b', 1)] * 150)[:299] + [('c', LARGEST)]]
LARGE_ARRIVALS = LARGE_ARRIVALS + [
    list(zip(mixed_items('aabcd', 30, step),
             mixed_items([1, 2, 10 ** 15, LARGEST // 50, LARGEST // 40, 7], 30, step + 2)))
    for step in range(1, 30)
]
