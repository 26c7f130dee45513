"""Which states can remain if only the number of items of each kind is known."""

from unlikepairs.errors import Impossible, InvalidCounts
from unlikepairs.sequences import (
    MAX_KINDS, add_run, check_kind, checked_state, cut, is_listed, is_run, is_whole, length_of)
from unlikepairs.waiting import kind_of, waiting_number


def is_counts(value):
    """Return whether any value is a list of counts."""
    if not is_listed(value, MAX_KINDS) or not all([is_run(entry) for entry in value]):
        return False
    return all([entry[0] < following[0] for entry, following in zip(value, value[1:])])


def checked_counts(counts):
    """Return counts as a new list of tuples."""
    if not is_counts(counts):
        raise InvalidCounts("not counts of at most 12 kinds in ascending order")
    return [(kind, count) for kind, count in counts]


def counts_without(counts, state):
    """Return the counts of the items that do not wait in a state, also those that are 0 or less."""
    return [(kind, count - waiting_number(state) if kind == kind_of(state) else count) for kind, count in counts]


def majority_in(counts):
    """Return a list of the one tuple ("majority", ..) that applies to the items that have to leave, or of none."""
    total = length_of(counts)
    return [("majority", kind, count, total) for kind, count in counts if 2 * count > total]


def reasons_in(counts, state):
    """Return all reasons why a state cannot remain, in their order."""
    if state is not None and state[0] not in [kind for kind, count in counts]:
        return [("unknown", state[0])]
    others = counts_without(counts, state)
    total = length_of(others)
    parity = [("parity", total)] if total % 2 == 1 else []
    few = [("few", count) for kind, count in counts if kind == kind_of(state) and count < waiting_number(state)]
    return few + parity + ([] if few else majority_in(others))


def is_flat(value):
    """Return whether any value is a list or a tuple of at most four strings and integers."""
    return is_listed(value, 4) and all([isinstance(part, str) or is_whole(part) for part in value])


def paired_runs(counts):
    """Return runs of these counts after which nobody waits; their number is even, and no kind has more than half.

    With the items in the order of their kinds, each one of the first half leaves with the one that is half of all
    items behind it: they differ, since a kind with both of them would have more than half.
    """
    half = length_of(counts) // 2
    firsts = cut(counts, 0, half)
    seconds = cut(counts, half, half)
    runs = []
    while firsts:
        size = min(firsts[0][1], seconds[0][1])
        add_run(runs, firsts[0][0], size)
        add_run(runs, seconds[0][0], size)
        firsts = cut(firsts, size, half)
        seconds = cut(seconds, size, half)
    return runs


def range_in(counts, kind):
    """Return (least, most) of the items of a kind, at least 1, that can remain, or None.

    Every other kind has to be at most half of the items that leave, and so has what is left of this one.
    """
    own = length_of([entry for entry in counts if entry[0] == kind])
    total = length_of(counts)
    largest = max([0] + [count for each, count in counts if each != kind])
    least = max(2 * own - total, 2 - total % 2)
    most = min(own - (total - own) % 2, total - 2 * largest)
    return (least, most) if least <= most else None


def can_remain(counts, state):
    """Return whether a state can remain."""
    return reason_against(counts, state) is None


def reason_against(counts, state):
    """Return the first reason why a state cannot remain, or None if it can."""
    counts = checked_counts(counts)
    reasons = reasons_in(counts, checked_state(state))
    return reasons[0] if reasons else None


def shows_against(counts, state, value):
    """Return whether any value is a reason why a state cannot remain, not necessarily the first one."""
    counts = checked_counts(counts)
    reasons = reasons_in(counts, checked_state(state))
    return is_flat(value) and tuple(value) in reasons


def sequence_for(counts, state):
    """Return a sequence that has the counts and leads to the state."""
    counts = checked_counts(counts)
    state = checked_state(state)
    reasons = reasons_in(counts, state)
    if reasons:
        raise Impossible(reasons[0])
    runs = paired_runs(counts_without(counts, state))
    if state is not None:
        add_run(runs, state[0], state[1])
    return runs


def remaining_range(counts, kind):
    """Return the least and the greatest number of items of a kind, at least 1, that can remain, or None."""
    counts = checked_counts(counts)
    check_kind(kind)
    return range_in(counts, kind)


def remaining_count(counts):
    """Return the number of states that can remain."""
    counts = checked_counts(counts)
    number = 0 if reasons_in(counts, None) else 1
    for kind, count in counts:
        ends = range_in(counts, kind)
        if ends is not None:
            number += (ends[1] - ends[0]) // 2 + 1
    return number
