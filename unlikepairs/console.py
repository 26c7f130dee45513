"""Command lines that control a station."""

from unlikepairs.errors import InvalidCommand
from unlikepairs.sequences import joined
from unlikepairs.station import Station
from unlikepairs.texts import format_sequence, format_state, is_decimal, number_in

# What may stand behind each first word: W is any word, N a number.
COMMANDS = {
    "arrive": ("W", "WN"),
    "giveup": ("N", "NN"),
    "undo": ("",),
    "state": ("",),
    "waiting": ("",),
    "partner": ("N",),
    "pairs": ("",),
    "arrivals": ("",),
    "sequence": ("",),
}


def has_form(words, form):
    """Return whether words are of a form."""
    return len(words) == len(form) and all([letter == "W" or is_decimal(word) for word, letter in zip(words, form)])


def checked_words(line):
    """Return the words of a command line."""
    if not isinstance(line, str):
        raise InvalidCommand("not a string")
    words = line.split(" ")
    if "" in words or not any([has_form(words[1:], form) for form in COMMANDS.get(words[0], ())]):
        raise InvalidCommand("not a command line")
    return words


def text_of_ranges(ranges):
    """Return the text of ranges (first, last)."""
    words = [str(first) if first == last else f"{first}-{last}" for first, last in ranges]
    return " ".join(words) if words else "none"


def text_of_arrivals(operations):
    """Return the text of the sequence of all arrivals."""
    runs = []
    for name, value, count in operations:
        if name == "arrive":
            runs = joined(runs, [(value, count)])
    return format_sequence(runs) if runs else "empty"


class Console:
    """A console that controls a station of its own."""

    def __init__(self):
        self.station = Station()

    def execute(self, line):
        """Carry out a command line and return its result."""
        words = checked_words(line)
        count = number_in(words[2]) if len(words) == 3 else 1
        if words[0] == "arrive":
            return str(self.station.arrive(words[1], count))
        if words[0] == "giveup":
            return str(self.station.give_up(number_in(words[1]), count))
        if words[0] == "undo":
            self.station.undo()
            return "ok"
        return self.answer(words)

    def answer(self, words):
        """Return the result of a command line that changes nothing."""
        if words[0] == "state":
            return format_state(self.station.current_state())
        if words[0] == "waiting":
            return text_of_ranges(self.station.waiting_positions())
        if words[0] == "partner":
            position = self.station.partner_at(number_in(words[1]))
            return "none" if position is None else str(position)
        if words[0] == "pairs":
            return str(self.station.pair_total())
        if words[0] == "arrivals":
            return str(self.station.arrival_count())
        return text_of_arrivals(self.station.operations_done())
