"""Machines written as text."""

from mostspent.errors import InvalidLine, InvalidMachine
from mostspent.machines import fault

HEADS = ("machine", "first", "last")
STEP = "step"
HOW_MANY = {"machine": 3, "step": 4}
MOST_DIGITS = 4


def format_machine(machine):
    """The text of the machine."""
    states, counters, letters, steps, firsts, lasts = machine
    lines = [
        _format_line("machine", (states, counters, letters)),
        _format_line("first", firsts),
        _format_line("last", lasts),
    ]
    lines.extend([_format_line(STEP, step) for step in steps])
    return "\n".join(lines)


def _format_line(head, integers):
    """The line that begins with the word `head`."""
    return " ".join([head] + [str(integer) for integer in integers])


def parse_machine(text):
    """The machine that is written in the text. Raises InvalidLine, then InvalidMachine."""
    # Not splitlines, which would also split at other characters than the line feed.
    rows = [_parse_line(number, line) for number, line in enumerate(text.split("\n"))]
    if len(rows) < len(HEADS):
        raise InvalidLine(len(rows))
    states, counters, letters = rows[0]
    machine = (states, counters, letters, tuple(rows[len(HEADS):]), rows[1], rows[2])
    word = fault(machine)
    if word is not None:
        raise InvalidMachine(word)
    return machine


def _parse_line(number, line):
    """The integers of the line with this number. Raises InvalidLine."""
    head = HEADS[number] if number < len(HEADS) else STEP
    words = line.split(" ")
    integers = words[1:]
    if words[0] != head or not all([is_written_integer(word) for word in integers]):
        raise InvalidLine(number)
    if len(integers) != HOW_MANY.get(head, len(integers)):
        raise InvalidLine(number)
    return tuple([int(word) for word in integers])


def is_written_integer(word):
    """Whether the word is an integer as it is written in decimal digits."""
    # isdigit alone would let in the digits of other scripts.
    if not word.isascii() or not word.isdigit() or len(word) > MOST_DIGITS:
        return False
    return word == "0" or not word.startswith("0")
