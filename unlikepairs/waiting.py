"""Who waits after so many arrivals."""

from unlikepairs.errors import InvalidPosition
from unlikepairs.sequences import checked_runs, checked_state, cut, is_within, length_of


def waiting_number(state):
    """Return the number of waiting items of a state."""
    return 0 if state is None else state[1]


def kind_of(state):
    """Return the kind of the waiting items of a state, or None if nobody waits."""
    return None if state is None else state[0]


def state_with(kind, number):
    """Return the state of so many waiting items of a kind, 0 included."""
    return None if number == 0 else (kind, number)


def leaving_number(state, kind, count):
    """Return how many of so many arriving items of a kind leave with an item of the state."""
    if state is None or state[0] == kind:
        return 0
    return min(state[1], count)


def state_after_run(state, kind, count):
    """Return the state after the arrival of so many items of a kind."""
    if state is not None and state[0] == kind:
        return (kind, state[1] + count)
    left_over = waiting_number(state) - count
    if left_over > 0:
        return (state[0], left_over)
    return state_with(kind, -left_over)


def state_after_runs(runs, state):
    """Return the state after the arrivals of some runs."""
    for kind, count in runs:
        state = state_after_run(state, kind, count)
    return state


def check_moment(runs, moment):
    """Raise an error unless a value is a moment of some runs."""
    if not is_within(moment, 0, length_of(runs)):
        raise InvalidPosition("not a moment from 0 to the length")


def add_range(ranges, first, last):
    """Add a range at the end of a list of ranges, as a part of the last one if it continues that one."""
    if ranges and ranges[-1][1] + 1 == first:
        ranges[-1] = (ranges[-1][0], last)
    else:
        ranges.append((first, last))


def only_first(ranges, number):
    """Return what ranges (first, last) are if only their first so many positions are kept."""
    kept = []
    for first, last in ranges:
        size = min(number, last - first + 1)
        if size > 0:
            kept.append((first, first + size - 1))
        number -= size
    return kept


def without_first(ranges, number):
    """Return what is left of ranges (first, last) without the first so many positions."""
    kept = []
    for first, last in ranges:
        removed = min(number, last - first + 1)
        if first + removed <= last:
            kept.append((first + removed, last))
        number -= removed
    return kept


def ranges_after_run(ranges, start, count, leaving):
    """Return the waiting positions after a run that begins at start and whose first leaving items leave at once."""
    kept = without_first(ranges, leaving)
    if leaving < count:
        add_range(kept, start + leaving, start + count - 1)
    return kept


def state_after(sequence, state=None):
    """Return the state after all arrivals."""
    runs = checked_runs(sequence)
    return state_after_runs(runs, checked_state(state))


def state_at(sequence, moment, state=None):
    """Return the state at a moment."""
    runs = checked_runs(sequence)
    check_moment(runs, moment)
    return state_after_runs(cut(runs, 0, moment), checked_state(state))


def waiting_at(sequence, moment):
    """Return the positions of the items that wait at a moment, as ranges (first, last)."""
    runs = checked_runs(sequence)
    check_moment(runs, moment)
    state = None
    start = 0
    ranges = []
    for kind, count in cut(runs, 0, moment):
        ranges = ranges_after_run(ranges, start, count, leaving_number(state, kind, count))
        state = state_after_run(state, kind, count)
        start += count
    return ranges


def empty_moments(sequence, state=None):
    """Return the moments at which nobody waits."""
    runs = checked_runs(sequence)
    state = checked_state(state)
    moments = [0] if state is None else []
    start = 0
    for kind, count in runs:
        # Nobody waits at most once within a run: what arrives after that moment waits.
        if state is not None and leaving_number(state, kind, count) == state[1]:
            moments.append(start + state[1])
        state = state_after_run(state, kind, count)
        start += count
    return moments


def most_waiting(sequence, state=None):
    """Return the greatest number of waiting items, and the first moment with this number."""
    runs = checked_runs(sequence)
    state = checked_state(state)
    most = waiting_number(state)
    moment = 0
    end = 0
    for kind, count in runs:
        # Within a run the number only grows, or falls before it grows: it is greatest at one of the ends.
        state = state_after_run(state, kind, count)
        end += count
        if waiting_number(state) > most:
            most = waiting_number(state)
            moment = end
    return (most, moment)
