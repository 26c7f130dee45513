"""The orders in which items can arrive if only the number of items of each kind is known."""

from unlikepairs.errors import InvalidItems, InvalidNumber, TooMany
from unlikepairs.remains import checked_counts
from unlikepairs.sequences import checked_state, is_kind, is_listed, is_within, length_of, product_of
from unlikepairs.waiting import state_after_run

MAX_PRODUCT = 3000


def check_product(counts):
    """Raise an error if the counts are too large."""
    product = product_of([count + 1 for kind, count in counts])
    if product > MAX_PRODUCT:
        raise TooMany(product)


def steps_of(counts):
    """Return (kind, count, step) for each kind in ascending order.

    The numbers of items that have arrived are kept as one mark: the sum of step times the number of items of the
    kind. The marks are the numbers below the product of count + 1, and a mark grows with each arrival.
    """
    steps = []
    step = 1
    for kind, count in reversed(counts):
        steps.append((kind, count, step))
        step *= count + 1
    return steps[::-1]


def arrivals_at(steps, mark):
    """Return (kind, mark after it) for each kind of which an item can arrive, in ascending order."""
    return [(kind, mark + step) for kind, count, step in steps if mark // step % (count + 1) < count]


def add_orders(ways, state, orders):
    """Count so many more orders that lead to a state."""
    ways[state] = ways.get(state, 0) + orders


def ways_to(counts):
    """Return for each mark the dict of the states that can be reached, with the numbers of orders that do so."""
    steps = steps_of(counts)
    ways = [{} for mark in range(product_of([count + 1 for kind, count in counts]))]
    add_orders(ways[0], None, 1)
    for mark in range(len(ways)):
        reached = list(ways[mark].items())
        for kind, after in arrivals_at(steps, mark):
            for state, orders in reached:
                add_orders(ways[after], state_after_run(state, kind, 1), orders)
    return ways


def ways_from(counts, state):
    """Return for each mark the dict of the reached states, with the numbers of ways to go on from them to a state."""
    steps = steps_of(counts)
    reached = [list(ways) for ways in ways_to(counts)]
    last = len(reached) - 1
    rest = [{} for mark in range(len(reached))]
    rest[last] = {end: 1 if end == state else 0 for end in reached[last]}
    for mark in reversed(range(last)):
        for start in reached[mark]:
            rest[mark][start] = sum([rest[after][state_after_run(start, kind, 1)]
                                     for kind, after in arrivals_at(steps, mark)])
    return rest


def choices_at(steps, rest, mark, state):
    """Return (kind, mark after it, state after it, orders of the rest) for each kind of which an item can arrive."""
    choices = []
    for kind, after in arrivals_at(steps, mark):
        following = state_after_run(state, kind, 1)
        choices.append((kind, after, following, rest[after][following]))
    return choices


def is_order(value, counts):
    """Return whether any value is an order of some counts."""
    if not is_listed(value, length_of(counts)) or not all([is_kind(item) for item in value]):
        return False
    return sorted(value) == [kind for kind, count in counts for each in range(count)]


def order_count(counts):
    """Return the number of all orders."""
    counts = checked_counts(counts)
    check_product(counts)
    orders = 1
    length = 0
    for kind, count in counts:
        for number in range(1, count + 1):
            length += 1
            orders = orders * length // number
    return orders


def orders_leading_to(counts, state):
    """Return the number of orders after which the state is the given one."""
    counts = checked_counts(counts)
    state = checked_state(state)
    check_product(counts)
    return ways_to(counts)[-1].get(state, 0)


def nth_order(counts, state, index):
    """Return the order with an index among those that lead to a state, in ascending order."""
    counts = checked_counts(counts)
    state = checked_state(state)
    check_product(counts)
    rest = ways_from(counts, state)
    if not is_within(index, 0, rest[0][None] - 1):
        raise InvalidNumber("not the index of an order that leads to the state")
    steps = steps_of(counts)
    items = []
    mark = 0
    reached = None
    while len(items) < length_of(counts):
        choices = choices_at(steps, rest, mark, reached)
        for kind, after, following, orders in choices:
            if index < orders:
                items.append(kind)
                mark = after
                reached = following
                break
            index -= orders
    return items


def order_index(counts, items):
    """Return the index of an order among those that lead to the same state."""
    counts = checked_counts(counts)
    check_product(counts)
    if not is_order(items, counts):
        raise InvalidItems("not an order of the counts")
    state = None
    for item in items:
        state = state_after_run(state, item, 1)
    rest = ways_from(counts, state)
    steps = steps_of(counts)
    index = 0
    mark = 0
    reached = None
    for item in items:
        choices = choices_at(steps, rest, mark, reached)
        for kind, after, following, orders in choices:
            if kind < item:
                index += orders
            elif kind == item:
                mark = after
                reached = following
    return index


def rank_of(entry):
    """Return what decides which of the entries (state, orders) comes first."""
    state, orders = entry
    return (-orders, () if state is None else state)


def likeliest_state(counts):
    """Return the state to which most orders lead, and their number."""
    counts = checked_counts(counts)
    check_product(counts)
    return min(list(ways_to(counts)[-1].items()), key=rank_of)
