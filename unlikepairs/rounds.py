"""What happens if a sequence of at most 400 items, a round, is repeated."""

from unlikepairs.errors import InvalidNumber
from unlikepairs.sequences import checked_short_runs, checked_state, counts_of, is_within, length_of
from unlikepairs.waiting import state_after_runs, state_with, waiting_number

MAX_ROUNDS = 10 ** 30


def growth_in(runs):
    """Return (kind, growth) of a round, or None if no kind has more than half of the items."""
    length = length_of(runs)
    for kind, count in counts_of(runs):
        if 2 * count > length:
            return (kind, 2 * count - length)
    return None


def fall_of(runs, kind):
    """Return by how much a round lowers a number of waiting items of a kind that is at least its length."""
    return length_of(runs) - 2 * sum([count for each, count in runs if each == kind])


def falling_rounds(runs, state):
    """Return the number of rounds that begin with at least as many waiting items as a round has, if these become fewer.

    None of these states comes again: from fewer waiting items, only a round with growth leads to so many.
    """
    if state is None or state[1] < length_of(runs) or fall_of(runs, state[0]) <= 0:
        return 0
    return (state[1] - length_of(runs)) // fall_of(runs, state[0]) + 1


def fallen(runs, state, rounds):
    """Return the state after so many of its falling rounds."""
    if rounds == 0:
        return state
    return state_with(state[0], state[1] - rounds * fall_of(runs, state[0]))


def grows_for_good(runs, growth, state):
    """Return whether a state is sure to grow in every round: it is of the growing kind, and no round can empty it."""
    return growth is not None and state is not None and state[0] == growth[0] and state[1] >= length_of(runs)


def course_of(runs, growth, state, most=MAX_ROUNDS):
    """Return the states after 0, 1, 2, ..., most rounds, but none after the first that grows for good or came before.

    Where no falling rounds are left, such a state comes soon, however large most is.
    """
    states = [state]
    seen = {state: True}
    while len(states) <= most and not grows_for_good(runs, growth, state):
        state = state_after_runs(runs, state)
        states.append(state)
        if state in seen:
            break
        seen[state] = True
    return states


def continued(states, growth, rounds):
    """Return the state after so many rounds, from a course that ends with this round or as course_of says."""
    last = len(states) - 1
    if rounds <= last:
        return states[rounds]
    if growth is not None:
        return (growth[0], states[last][1] + (rounds - last) * growth[1])
    start = states.index(states[last])
    return states[start + (rounds - start) % (last - start)]


def adds_growth(growth, before, after):
    """Return whether a round that leads from one state to another one adds the growth to the growing kind."""
    kind, number = growth
    return (before is None or before[0] == kind) and after == (kind, waiting_number(before) + number)


def after_rounds(sequence, rounds, state=None):
    """Return the state after so many rounds."""
    runs = checked_short_runs(sequence)
    if not is_within(rounds, 0, MAX_ROUNDS):
        raise InvalidNumber("not a number of rounds from 0 to 10 ** 30")
    state = checked_state(state)
    growth = growth_in(runs)
    falling = min(rounds, falling_rounds(runs, state))
    states = course_of(runs, growth, fallen(runs, state, falling), rounds - falling)
    return continued(states, growth, rounds - falling)


def growth_of(sequence):
    """Return (kind, growth), or None if no kind has more than half of the items."""
    return growth_in(checked_short_runs(sequence))


def return_of(sequence, state=None):
    """Return (start, period) of the first state that comes again, or None if no state does."""
    runs = checked_short_runs(sequence)
    state = checked_state(state)
    if growth_in(runs) is not None:
        return None
    falling = falling_rounds(runs, state)
    states = course_of(runs, None, fallen(runs, state, falling))
    start = states.index(states[-1])
    return (falling + start, len(states) - 1 - start)


def growing_from(sequence, state=None):
    """Return the least number of rounds after which every further round adds the growth, or None without growth."""
    runs = checked_short_runs(sequence)
    state = checked_state(state)
    growth = growth_in(runs)
    if growth is None:
        return None
    falling = falling_rounds(runs, state)
    states = course_of(runs, growth, fallen(runs, state, falling))
    start = len(states) - 1
    while start > 0 and adds_growth(growth, states[start - 1], states[start]):
        start -= 1
    return falling + start
