"""Kinds, states, and sequences of arrivals that are given as runs of equal kinds."""

from unlikepairs.errors import (
    InvalidItems, InvalidKind, InvalidKinds, InvalidNumber, InvalidPosition, InvalidSequence, InvalidState, TooLong)

MAX_LETTERS = 8
MAX_RUNS = 400
MAX_ITEMS = 400
MAX_KINDS = 12
MAX_COUNT = 10 ** 30


def is_whole(value):
    """Return whether any value is an integer; True and False are not."""
    return isinstance(value, int) and not isinstance(value, bool)


def is_within(value, low, high):
    """Return whether any value is an integer from low to high."""
    return is_whole(value) and low <= value <= high


def is_listed(value, most):
    """Return whether any value is a list or a tuple of at most so many items."""
    return isinstance(value, (list, tuple)) and len(value) <= most


def is_couple(value):
    """Return whether any value is a list or a tuple of two items."""
    return isinstance(value, (list, tuple)) and len(value) == 2


def is_kind(value):
    """Return whether any value is a kind."""
    if not isinstance(value, str) or not 1 <= len(value) <= MAX_LETTERS:
        return False
    return all(["a" <= letter <= "z" for letter in value])


def is_kinds(value):
    """Return whether any value is a list of 1 to 12 kinds in ascending order without duplicates."""
    if not is_listed(value, MAX_KINDS) or len(value) == 0 or not all([is_kind(kind) for kind in value]):
        return False
    return all([kind < following for kind, following in zip(value, value[1:])])


def is_run(value):
    """Return whether any value is a run."""
    return is_couple(value) and is_kind(value[0]) and is_within(value[1], 1, MAX_COUNT)


def is_sequence(value):
    """Return whether any value is a sequence."""
    if not is_listed(value, MAX_RUNS) or not all([is_run(run) for run in value]):
        return False
    return all([run[0] != following[0] for run, following in zip(value, value[1:])])


def is_state(value):
    """Return whether any value is a state."""
    if value is None:
        return True
    return is_couple(value) and is_kind(value[0]) and is_whole(value[1]) and value[1] >= 1


def checked_runs(sequence):
    """Return the runs of a sequence as a new list of tuples."""
    if not is_sequence(sequence):
        raise InvalidSequence("not a sequence")
    return [(kind, count) for kind, count in sequence]


def checked_short_runs(sequence):
    """Return the runs of a sequence of at most 400 items."""
    runs = checked_runs(sequence)
    if length_of(runs) > MAX_ITEMS:
        raise TooLong("the sequence has more than 400 items")
    return runs


def check_kind(kind):
    """Raise an error unless a value is a kind."""
    if not is_kind(kind):
        raise InvalidKind("not a kind")


def check_kinds(kinds):
    """Raise an error unless a value is a list of kinds that may be chosen from."""
    if not is_kinds(kinds):
        raise InvalidKinds("not a list of 1 to 12 kinds in ascending order")


def check_position(runs, position):
    """Raise an error unless a value is the position of an item of some runs."""
    if not is_within(position, 0, length_of(runs) - 1):
        raise InvalidPosition("not the position of an item")


def checked_state(state):
    """Return a state as None or a tuple."""
    if not is_state(state):
        raise InvalidState("not a state")
    return None if state is None else tuple(state)


def length_of(runs):
    """Return the number of items of some runs."""
    return sum([count for kind, count in runs])


def product_of(numbers):
    """Return the product of some numbers."""
    product = 1
    for number in numbers:
        product *= number
    return product


def cut(runs, start, length):
    """Return the runs of so many items from the position start on."""
    end = start + length
    part = []
    before = 0
    for kind, count in runs:
        after = before + count
        size = min(end, after) - max(start, before)
        if size > 0:
            part.append((kind, size))
        before = after
    return part


def add_run(runs, kind, count):
    """Add a run at the end of a list of runs, as a part of the last one if the kinds are equal."""
    if runs and runs[-1][0] == kind:
        runs[-1] = (kind, runs[-1][1] + count)
    else:
        runs.append((kind, count))


def total_length(sequence):
    """Return the number of items."""
    return length_of(checked_runs(sequence))


def counts_of(sequence):
    """Return the number of items of each kind that occurs, in ascending order of the kinds."""
    totals = {}
    for kind, count in checked_runs(sequence):
        totals[kind] = totals.get(kind, 0) + count
    return sorted(list(totals.items()))


def kind_at(sequence, position):
    """Return the kind of the item at a position."""
    runs = checked_runs(sequence)
    check_position(runs, position)
    return cut(runs, position, 1)[0][0]


def part_of(sequence, start, length):
    """Return the sequence of length items from the position start on."""
    runs = checked_runs(sequence)
    total = length_of(runs)
    if not is_within(start, 0, total):
        raise InvalidPosition("not a position from 0 to the length")
    if not is_within(length, 0, total - start):
        raise InvalidNumber("not a number of items that follow")
    return cut(runs, start, length)


def joined(first, second):
    """Return the sequence in which the items of second follow those of first."""
    runs = checked_runs(first)
    for kind, count in checked_runs(second):
        add_run(runs, kind, count)
    if len(runs) > MAX_RUNS or any([count > MAX_COUNT for kind, count in runs]):
        raise TooLong("the joined sequence has too many runs or too long a run")
    return runs


def runs_of(items):
    """Return the sequence of a list of kinds."""
    if not is_listed(items, MAX_ITEMS) or not all([is_kind(item) for item in items]):
        raise InvalidItems("not a list of at most 400 kinds")
    runs = []
    for kind in items:
        add_run(runs, kind, 1)
    return runs


def items_of(sequence):
    """Return the list of the kinds of all items."""
    items = []
    for kind, count in checked_short_runs(sequence):
        items.extend([kind] * count)
    return items
