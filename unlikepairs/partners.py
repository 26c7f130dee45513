"""Which items leave together."""

from unlikepairs.errors import InvalidNumber
from unlikepairs.sequences import (
    check_position, checked_runs, cut, is_couple, is_listed, is_whole, is_within, length_of)
from unlikepairs.waiting import (
    check_moment, leaving_number, ranges_after_run, state_after_run, state_after_runs, waiting_number)

MAX_PAIRS = 400


def blocks_of_run(ranges, start, leaving):
    """Return the blocks (first, second, count) of the leaving items from start on, with the items of the ranges."""
    blocks = []
    for first, last in ranges:
        size = min(leaving, last - first + 1)
        if size > 0:
            blocks.append((first, start, size))
        start += size
        leaving -= size
    return blocks


def add_block(blocks, first, second, count):
    """Add a block at the end of a list of blocks, as a part of the last one if it continues that one."""
    if blocks:
        last_first, last_second, size = blocks[-1]
        if last_first + size == first and last_second + size == second:
            blocks[-1] = (last_first, last_second, size + count)
            return
    blocks.append((first, second, count))


def blocks_of(runs):
    """Return the blocks (first, second, count) of all pairs in the order in which they leave.

    This order is ascending in the first positions too: whoever waits longest leaves first.
    """
    blocks = []
    ranges = []
    state = None
    start = 0
    for kind, count in runs:
        leaving = leaving_number(state, kind, count)
        for first, second, size in blocks_of_run(ranges, start, leaving):
            add_block(blocks, first, second, size)
        ranges = ranges_after_run(ranges, start, count, leaving)
        state = state_after_run(state, kind, count)
        start += count
    return blocks


def pairs_in(blocks):
    """Return the number of pairs of some blocks."""
    return sum([count for first, second, count in blocks])


def partner_in(blocks, position):
    """Return the position of the partner of an item, or None if no block has it."""
    for first, second, count in blocks:
        if first <= position < first + count:
            return second + position - first
        if second <= position < second + count:
            return first + position - second
    return None


def is_pair(value):
    """Return whether any value has the form of a pair of positions."""
    return is_couple(value) and is_whole(value[0]) and is_whole(value[1])


def partner_of(sequence, position):
    """Return the position of the partner of an item, or None if it remains."""
    runs = checked_runs(sequence)
    check_position(runs, position)
    return partner_in(blocks_of(runs), position)


def pair_count(sequence, moment=None):
    """Return the number of pairs that have left by a moment, or by the end."""
    runs = checked_runs(sequence)
    if moment is None:
        moment = length_of(runs)
    check_moment(runs, moment)
    waiting = waiting_number(state_after_runs(cut(runs, 0, moment), None))
    return (moment - waiting) // 2


def pairs_of(sequence):
    """Return all pairs as blocks (first, second, count), as few as possible."""
    return blocks_of(checked_runs(sequence))


def nth_pair(sequence, index):
    """Return the pair with an index in the order in which the pairs leave."""
    blocks = blocks_of(checked_runs(sequence))
    if not is_within(index, 0, pairs_in(blocks) - 1):
        raise InvalidNumber("not the index of a pair")
    at = 0
    while index >= blocks[at][2]:
        index -= blocks[at][2]
        at += 1
    first, second, count = blocks[at]
    return (first + index, second + index)


def longest_wait(sequence):
    """Return the first pair with the greatest difference of its positions, or None without pairs."""
    longest = None
    for first, second, count in blocks_of(checked_runs(sequence)):
        if longest is None or second - first > longest[1] - longest[0]:
            longest = (first, second)
    return longest


def is_pairing(sequence, value):
    """Return whether any value is the list of all pairs in the order in which they leave."""
    blocks = blocks_of(checked_runs(sequence))
    if pairs_in(blocks) > MAX_PAIRS or not is_listed(value, MAX_PAIRS) or not all([is_pair(pair) for pair in value]):
        return False
    pairs = [(first + at, second + at) for first, second, count in blocks for at in range(count)]
    return [(pair[0], pair[1]) for pair in value] == pairs
