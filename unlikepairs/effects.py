"""What a sequence of at most 400 items does to every possible state."""

from unlikepairs.errors import InvalidEffects, InvalidState, SameEffect
from unlikepairs.sequences import check_kind, check_kinds, checked_state, is_listed, is_state, items_of
from unlikepairs.waiting import state_with, waiting_number

MAX_EFFECTS = 401
LETTERS = "abcdefghijklmnopqrstuvwxyz"


def ending_from(items, start, endings):
    """Return the state at the end if nobody waits at the moment start, from the endings of the later moments."""
    kind = items[start]
    number = 0
    for moment in range(start, len(items)):
        number += 1 if items[moment] == kind else -1
        if number == 0:
            return endings[moment + 1]
    return (kind, number)


def endings_of(items):
    """Return the states at the end if nobody waits at moment 0, 1, 2, ..., the length."""
    endings = [None] * (len(items) + 1)
    for start in reversed(range(len(items))):
        endings[start] = ending_from(items, start, endings)
    return endings


def shift_of(items, kind):
    """Return by how much a number of waiting items of a kind changes if some of them wait all the time."""
    return 2 * items.count(kind) - len(items)


def effects_up_to(items, endings, kind, most):
    """Return the effects on 0, 1, 2, ..., most waiting items of a kind; most is at least the number of items."""
    effects = [endings[0]]
    change = 0
    for moment, item in enumerate(items):
        change += 1 if item == kind else -1
        # At the first moment of each new low, nobody waits any more if just that many items waited at the beginning.
        if change == -len(effects):
            effects.append(endings[moment + 1])
    while len(effects) <= most:
        effects.append(state_with(kind, len(effects) + change))
    return effects


def other_kind(kinds):
    """Return a kind that is not among at most 800 given ones."""
    number = 0
    while three_letters(number) in kinds:
        number += 1
    return three_letters(number)


def three_letters(number):
    """Return the kind of three letters with a number from 0 to 26 ** 3 - 1."""
    return LETTERS[number // 676] + LETTERS[number // 26 % 26] + LETTERS[number % 26]


def first_difference(first, second):
    """Return a list of one state on which two lists of items have different effects, or of none.

    All kinds that do not occur behave in the same way, so one of them is enough. From the greater length on, both
    effects are shifts, so the numbers up to it are enough.
    """
    kinds = sorted(set(first + second))
    most = max(len(first), len(second))
    first_endings = endings_of(first)
    second_endings = endings_of(second)
    for kind in kinds + [other_kind(kinds)]:
        effects = effects_up_to(first, first_endings, kind, most)
        others = effects_up_to(second, second_endings, kind, most)
        for number in range(most + 1):
            if effects[number] != others[number]:
                return [state_with(kind, number)]
    return []


def is_effects(value, kind):
    """Return whether any value is a list of effects on the states of a kind."""
    if not is_listed(value, MAX_EFFECTS) or len(value) == 0 or not all([is_state(effect) for effect in value]):
        return False
    return is_state_of(value[-1], kind)


def is_state_of(value, kind):
    """Return whether any value is None or a state of a kind."""
    return is_state(value) and (value is None or value[0] == kind)


def effect_of(sequence, kind):
    """Return the effects on 0, 1, 2, ... waiting items of a kind, up to the number from which on they are a shift."""
    items = items_of(sequence)
    check_kind(kind)
    effects = effects_up_to(items, endings_of(items), kind, len(items))
    shift = shift_of(items, kind)
    least = len(items)
    while least > 0 and effects[least - 1] == state_with(kind, least - 1 + shift):
        least -= 1
    return effects[:least + 1]


def effect_on(effects, kind, state):
    """Return the effect on None or a state of a kind, from the list that effect_of returns for this kind."""
    check_kind(kind)
    if not is_effects(effects, kind):
        raise InvalidEffects("not a list of effects on the states of the kind")
    if not is_state_of(state, kind):
        raise InvalidState("not a state of the kind")
    number = waiting_number(state)
    least = len(effects) - 1
    if number <= least:
        return checked_state(effects[number])
    return state_with(kind, waiting_number(effects[least]) + number - least)


def have_same_effect(first, second):
    """Return whether two sequences have the same effect on every state."""
    first_items = items_of(first)
    return first_difference(first_items, items_of(second)) == []


def state_that_differs(first, second):
    """Return a state on which two sequences have different effects."""
    first_items = items_of(first)
    states = first_difference(first_items, items_of(second))
    if states == []:
        raise SameEffect("the sequences have the same effect on every state")
    return states[0]


def states_before(sequence, state, kinds):
    """Return all states on which the effect is a given state, among None and the states of some kinds."""
    items = items_of(sequence)
    state = checked_state(state)
    check_kinds(kinds)
    endings = endings_of(items)
    length = len(items)
    states = [None] if endings[0] == state else []
    for kind in kinds:
        effects = effects_up_to(items, endings, kind, length)
        states.extend([(kind, number) for number in range(1, length + 1) if effects[number] == state])
        # From the length on the effect is a shift, which leads at most one number to a given state of the kind.
        if state is not None and state[0] == kind and state[1] - shift_of(items, kind) > length:
            states.append((kind, state[1] - shift_of(items, kind)))
    return states
