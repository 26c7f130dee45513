"""Records of arrivals in which some kinds are unknown."""

from unlikepairs.errors import Contradiction, InvalidItems, InvalidNumber, InvalidRecord
from unlikepairs.sequences import (
    MAX_ITEMS, check_kinds, is_couple, is_kind, is_listed, is_within, product_of, runs_of)
from unlikepairs.waiting import leaving_number, state_after_run

MAX_ENTRIES = 400


def is_entry(value):
    """Return whether any value is an entry of a record."""
    if not is_couple(value) or not isinstance(value[1], str):
        return False
    return (value[0] is None or is_kind(value[0])) and value[1] in ("waits", "leaves")


def is_record(value):
    """Return whether any value is a record."""
    return is_listed(value, MAX_ENTRIES) and all([is_entry(entry) for entry in value])


def checked_entries(kinds, record):
    """Return the entries of a record of some kinds as a new list of tuples."""
    check_kinds(kinds)
    if not is_record(record):
        raise InvalidRecord("not a record")
    if not all([kind is None or kind in kinds for kind, action in record]):
        raise InvalidRecord("a recorded kind is not one of the kinds")
    return [(kind, action) for kind, action in record]


def known_kinds(entries, wanted):
    """Return the kinds that are known of the entries with an action."""
    return [kind for kind, action in entries if action == wanted and kind is not None]


def epochs_of(entries):
    """Return the epochs of a record as lists of entries. An entry that leaves while nobody waits is one of its own."""
    epochs = []
    level = 0
    for kind, action in entries:
        if level == 0:
            epochs.append([])
        epochs[-1].append((kind, action))
        level = level + 1 if action == "waits" else max(level - 1, 0)
    return epochs


def waiting_options(kinds, epoch):
    """Return the kinds that the waiting items of an epoch can have: all of them have the same one."""
    if epoch[0][1] == "leaves":
        return []
    waiting = known_kinds(epoch, "waits")
    leaving = known_kinds(epoch, "leaves")
    return [kind for kind in kinds if kind not in leaving and all([kind == each for each in waiting])]


def later_options(kinds, entry, waiting):
    """Return the kinds that an item can have while items of a kind wait."""
    kind, action = entry
    if action == "waits":
        return [waiting]
    if kind is None:
        return [each for each in kinds if each != waiting]
    return [kind]


def option_numbers(kinds, entries):
    """Return for each entry how many kinds its item can have, which is the same whatever the items before it are."""
    numbers = []
    for epoch in epochs_of(entries):
        numbers.append(len(waiting_options(kinds, epoch)))
        numbers.extend([len(later_options(kinds, entry, kinds[0])) for entry in epoch[1:]])
    return numbers


def options_after(kinds, entries, items):
    """Return for each entry the kinds that its item can have behind the given items before it."""
    options = []
    for epoch in epochs_of(entries):
        waiting = items[len(options)]
        options.append(waiting_options(kinds, epoch))
        options.extend([later_options(kinds, entry, waiting) for entry in epoch[1:]])
    return options


def digits_in(numbers, index):
    """Return the digits of an index, each one below its number, with the last one changing fastest."""
    digits = []
    for number in reversed(numbers):
        digits.append(index % number)
        index //= number
    return digits[::-1]


def conflicts_between(entries, first, last):
    """Return the conflicts of the entry last with single entries from first on, where its epoch begins."""
    kind, action = entries[last]
    others = [at for at in range(first, last) if kind is not None and entries[at][0] is not None]
    waits = [at for at in others if action == entries[at][1] == "waits" and entries[at][0] != kind]
    leaves = [at for at in others if action != entries[at][1] and entries[at][0] == kind]
    return [("waits", at, last) for at in waits] + [("leaves", at, last) for at in leaves]


def is_exhausted(kinds, epoch):
    """Return whether no kind is left for the waiting items of an epoch, or none for its last item, which leaves."""
    leaving = known_kinds(epoch, "leaves")
    if known_kinds(epoch, "waits") == [] and all([kind in leaving for kind in kinds]):
        return True
    return len(kinds) == 1 and epoch[-1][1] == "leaves"


def conflicts_at(kinds, entries, first, last):
    """Return the conflicts of the entry last, whose epoch begins with the entry first, in their order."""
    if first == last and entries[last][1] == "leaves":
        return [("level", last)]
    exhausted = [("all", first, last)] if is_exhausted(kinds, entries[first:last + 1]) else []
    return conflicts_between(entries, first, last) + exhausted


def conflict_in(kinds, entries):
    """Return the first conflict of a record, or None."""
    first = 0
    for epoch in epochs_of(entries):
        for last in range(first, first + len(epoch)):
            conflicts = conflicts_at(kinds, entries, first, last)
            if conflicts:
                return conflicts[0]
        first += len(epoch)
    return None


def certain_kind(kinds, options, entry):
    """Return the kind that an item of an epoch has in all lists that fit, or None, from its waiting_options."""
    kind, action = entry
    if kind is not None or len(options) > 1:
        return kind
    choices = later_options(kinds, entry, options[0])
    return choices[0] if len(choices) == 1 else None


def conflict_of(kinds, record):
    """Return None if some list fits, otherwise a conflict."""
    return conflict_in(kinds, checked_entries(kinds, record))


def fitting_count(kinds, record):
    """Return the number of lists that fit."""
    return product_of(option_numbers(kinds, checked_entries(kinds, record)))


def nth_fitting(kinds, record, index):
    """Return the list with an index among the lists that fit, in ascending order."""
    entries = checked_entries(kinds, record)
    numbers = option_numbers(kinds, entries)
    if not is_within(index, 0, product_of(numbers) - 1):
        raise InvalidNumber("not the index of a list that fits")
    digits = digits_in(numbers, index)
    items = []
    for epoch in epochs_of(entries):
        waiting = waiting_options(kinds, epoch)[digits[len(items)]]
        items.append(waiting)
        for entry in epoch[1:]:
            items.append(later_options(kinds, entry, waiting)[digits[len(items)]])
    return items


def fitting_index(kinds, record, items):
    """Return the index of a list among the lists that fit."""
    entries = checked_entries(kinds, record)
    if not is_listed(items, MAX_ITEMS) or len(items) != len(entries):
        raise InvalidItems("not a list with one item for each entry")
    index = 0
    for item, options in zip(items, options_after(kinds, entries, items)):
        if not is_kind(item) or item not in options:
            raise InvalidItems("not a list that fits")
        index = index * len(options) + options.index(item)
    return index


def certain_kinds(kinds, record):
    """Return for each entry the kind that its item has in all lists that fit, or None."""
    entries = checked_entries(kinds, record)
    conflict = conflict_in(kinds, entries)
    if conflict is not None:
        raise Contradiction(conflict)
    certain = []
    for epoch in epochs_of(entries):
        options = waiting_options(kinds, epoch)
        certain.extend([certain_kind(kinds, options, entry) for entry in epoch])
    return certain


def record_of(items):
    """Return the record of a list of kinds."""
    record = []
    state = None
    for kind, count in runs_of(items):
        leaving = leaving_number(state, kind, count)
        record.extend([(kind, "leaves")] * leaving + [(kind, "waits")] * (count - leaving))
        state = state_after_run(state, kind, count)
    return record
