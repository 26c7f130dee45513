"""When two states that receive the same arrivals become equal."""

from unlikepairs.errors import TooLong
from unlikepairs.sequences import MAX_COUNT, check_kinds, checked_runs, checked_state, length_of
from unlikepairs.waiting import kind_of, state_after_run, waiting_number


def meets_within(one, other, kind, count):
    """Return whether two different states become equal within a run.

    They do so only as None: the last items of two other kinds leave at the same arrival.
    """
    if kind_of(one) == kind or kind_of(other) == kind:
        return False
    return waiting_number(one) == waiting_number(other) <= count


def meeting_of(kinds, one, other):
    """Return the fewest arrivals of some kinds after which two states are equal, as runs, or None if there are none.

    Every arrival shrinks the larger state. The smaller one shrinks to None too, grows by half of what is left, and
    shrinks again; so it takes one kind that differs from both states, and a second one if the numbers differ.
    """
    if one == other:
        return []
    larger, smaller = (one, other) if waiting_number(one) > waiting_number(other) else (other, one)
    most = waiting_number(larger)
    least = waiting_number(smaller)
    firsts = [kind for kind in kinds if kind not in (kind_of(larger), kind_of(smaller))]
    if firsts == [] or (most - least) % 2 == 1:
        return None
    if most == least:
        return [(firsts[0], most)]
    seconds = [kind for kind in kinds if kind not in (kind_of(larger), firsts[0])]
    if seconds == []:
        return None
    half = (most - least) // 2
    return [(firsts[0], least + half), (seconds[0], half)]


def distance_of(one, other):
    """Return the distance of two states."""
    one = checked_state(one)
    other = checked_state(other)
    if kind_of(one) == kind_of(other):
        return abs(waiting_number(one) - waiting_number(other))
    return waiting_number(one) + waiting_number(other)


def meeting_moment(sequence, one, other):
    """Return the first moment at which two states are equal, or None if there is none."""
    runs = checked_runs(sequence)
    one = checked_state(one)
    other = checked_state(other)
    if one == other:
        return 0
    start = 0
    for kind, count in runs:
        if meets_within(one, other, kind, count):
            return start + waiting_number(one)
        one = state_after_run(one, kind, count)
        other = state_after_run(other, kind, count)
        start += count
    return None


def meeting_length(kinds, one, other):
    """Return the least number of arrivals of some kinds after which two states are equal, or None."""
    check_kinds(kinds)
    one = checked_state(one)
    runs = meeting_of(kinds, one, checked_state(other))
    return None if runs is None else length_of(runs)


def shortest_meeting(kinds, one, other):
    """Return a shortest sequence of some kinds after which two states are equal, or None."""
    check_kinds(kinds)
    one = checked_state(one)
    runs = meeting_of(kinds, one, checked_state(other))
    if runs is not None and length_of(runs) > MAX_COUNT:
        raise TooLong("the shortest meeting has more than 10 ** 30 items")
    return runs
