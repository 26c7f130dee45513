"""Sequences, states and records as texts."""

from unlikepairs.errors import InvalidRecord, InvalidText
from unlikepairs.records import is_record
from unlikepairs.sequences import checked_runs, checked_state, is_kind, is_sequence

MARKS = {"waits": "+", "leaves": "-"}
ACTIONS = {"+": "waits", "-": "leaves"}


def is_digits(word):
    """Return whether a word consists of digits."""
    return word != "" and all(["0" <= letter <= "9" for letter in word])


def is_decimal(word):
    """Return whether a word is a decimal number without leading zeros."""
    return is_digits(word) and (word == "0" or word[0] != "0")


def number_in(digits):
    """Return the number that some digits stand for; Python's own way has a limit, which a text may exceed."""
    number = 0
    for digit in digits:
        number = 10 * number + ord(digit) - ord("0")
    return number


def run_word(run):
    """Return the word of a run."""
    kind, count = run
    return kind if count == 1 else f"{kind}*{count}"


def is_run_word(word):
    """Return whether a word has the form of a word of a sequence."""
    kind, star, digits = word.partition("*")
    return is_kind(kind) and (star == "" or is_digits(digits))


def is_exact(word):
    """Return whether a word of this form is written as in a text of a value: a count from 2 on, or none."""
    kind, star, digits = word.partition("*")
    return star == "" or (digits[0] != "0" and digits != "1")


def run_in(word):
    """Return the run of a word of this form."""
    kind, star, digits = word.partition("*")
    return (kind, 1 if star == "" else number_in(digits))


def is_entry_word(word):
    """Return whether a word has the form of a word of a record."""
    return word[-1:] in ("+", "-") and (word[:-1] == "?" or is_kind(word[:-1]))


def entry_in(word):
    """Return the entry of a word of this form."""
    return (None if word[:-1] == "?" else word[:-1], ACTIONS[word[-1]])


def words_of(text):
    """Return the words of a text."""
    if not isinstance(text, str):
        raise InvalidText(None)
    return [] if text == "" else text.split(" ")


def check_forms(forms):
    """Raise an error unless all words have their form; forms says of each one whether it has."""
    if False in forms:
        raise InvalidText(forms.index(False))


def format_sequence(sequence):
    """Return the text of a sequence."""
    return " ".join([run_word(run) for run in checked_runs(sequence)])


def format_state(state):
    """Return the text of a state."""
    state = checked_state(state)
    return "-" if state is None else run_word(state)


def format_record(record):
    """Return the text of a record."""
    if not is_record(record):
        raise InvalidRecord("not a record")
    return " ".join([("?" if kind is None else kind) + MARKS[action] for kind, action in record])


def parse_sequence(text):
    """Return the sequence with a text."""
    words = words_of(text)
    check_forms([is_run_word(word) for word in words])
    runs = [run_in(word) for word in words]
    if not all([is_exact(word) for word in words]) or not is_sequence(runs):
        raise InvalidText(None)
    return runs


def parse_state(text):
    """Return the state with a text."""
    words = words_of(text)
    check_forms([word == "-" or is_run_word(word) for word in words])
    if len(words) != 1 or not is_exact(words[0]):
        raise InvalidText(None)
    return None if text == "-" else run_in(text)


def parse_record(text):
    """Return the record with a text."""
    words = words_of(text)
    check_forms([is_entry_word(word) for word in words])
    entries = [entry_in(word) for word in words]
    if not is_record(entries):
        raise InvalidText(None)
    return entries
