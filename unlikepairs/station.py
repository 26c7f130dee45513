"""A station at which items arrive, wait, leave in pairs and give up."""

from unlikepairs.errors import InvalidNumber, InvalidPosition, NothingToUndo
from unlikepairs.partners import blocks_of_run, partner_in
from unlikepairs.sequences import MAX_COUNT, check_kind, is_within
from unlikepairs.waiting import (
    leaving_number, only_first, ranges_after_run, state_after_run, state_with, waiting_number, without_first)


class Station:
    """A station; at first nobody waits and nothing has arrived."""

    def __init__(self):
        self.state = None
        self.ranges = []
        self.arrived = 0
        self.paired = 0
        self.blocks = []
        # The operations, each with what was before it. The lists in there are replaced, never changed.
        self.past = []

    def __eq__(self, other):
        return (isinstance(other, Station) and self.state == other.state and self.ranges == other.ranges
                and self.arrived == other.arrived and self.paired == other.paired)

    def __len__(self):
        return len(self.past)

    def remember(self, operation):
        """Keep what is now, so that an operation that follows can be undone."""
        before = (self.state, self.ranges, self.arrived, self.paired, self.blocks)
        self.past.append((operation, before))

    def arrive(self, kind, count=1):
        """Let items of a kind arrive, and return the number of pairs that leave."""
        check_kind(kind)
        if not is_within(count, 1, MAX_COUNT):
            raise InvalidNumber("not a number of items from 1 to 10 ** 30")
        self.remember(("arrive", kind, count))
        leaving = leaving_number(self.state, kind, count)
        self.blocks = self.blocks + blocks_of_run(self.ranges, self.arrived, leaving)
        self.ranges = ranges_after_run(self.ranges, self.arrived, count, leaving)
        self.state = state_after_run(self.state, kind, count)
        self.arrived += count
        self.paired += leaving
        return leaving

    def give_up(self, index, count=1):
        """Let waiting items leave alone, from the one with an index on, and return the position of the first one."""
        waiting = waiting_number(self.state)
        if not is_within(index, 0, waiting - 1) or not is_within(count, 1, waiting - index):
            raise InvalidNumber("there are not so many waiting items")
        self.remember(("give_up", index, count))
        later = without_first(self.ranges, index)
        self.ranges = only_first(self.ranges, index) + without_first(later, count)
        self.state = state_with(self.state[0], waiting - count)
        return later[0][0]

    def undo(self):
        """Undo the last operation that has not been undone."""
        if len(self.past) == 0:
            raise NothingToUndo("no operation is left")
        operation, before = self.past.pop()
        self.state, self.ranges, self.arrived, self.paired, self.blocks = before

    def current_state(self):
        """Return the state."""
        return self.state

    def waiting_positions(self):
        """Return the positions of the waiting items, as ranges (first, last)."""
        return list(self.ranges)

    def arrival_count(self):
        """Return the number of items that have arrived."""
        return self.arrived

    def pair_total(self):
        """Return the number of pairs that have left."""
        return self.paired

    def give_up_count(self):
        """Return the number of items that have given up."""
        return self.arrived - 2 * self.paired - waiting_number(self.state)

    def partner_at(self, position):
        """Return the position of the partner of an item, or None if it waits or has given up."""
        if not is_within(position, 0, self.arrived - 1):
            raise InvalidPosition("not the position of an item")
        return partner_in(self.blocks, position)

    def operations_done(self):
        """Return the operations that have not been undone."""
        return [operation for operation, before in self.past]

    def duplicate(self):
        """Return an independent station with the same waiting items, numbers and history."""
        twin = Station()
        twin.state = self.state
        twin.ranges = self.ranges
        twin.arrived = self.arrived
        twin.paired = self.paired
        twin.blocks = self.blocks
        twin.past = list(self.past)
        return twin
