"""Tables, recipes and the entries of catalogues, written as text."""

from mostspent.errors import InvalidLine
from mostspent.notation import is_written_integer
from mostspent.tables import GROWS

HOW_MANY = {"letter": 1, "both": 2, "often": 1}
GREATEST_LETTER = 3
GREATEST_ACTION = 6
MOST_ROWS = 7
EQUALS = " = "
NO_RUN = "."
GROWING = "g"


def format_table(table):
    """The text of the table."""
    return "/".join([",".join([_format_value(value) for value in row]) for row in table])


def _format_value(value):
    """The text of the value."""
    if value is None:
        return NO_RUN
    return GROWING if value == GROWS else str(value)


def format_recipe(recipe):
    """The text of the recipe."""
    return "\n".join([_format_line(line) for line in recipe])


def _format_line(line):
    """The text of a line of a recipe."""
    return " ".join([str(word) for word in line])


def format_entries(entries):
    """The text of the entries of a catalogue."""
    return "\n".join([_format_line(made) + EQUALS + format_table(table) for made, table in entries])


def parse_recipe(text):
    """The recipe that is written in the text. Raises InvalidLine."""
    return tuple([_parse_line(number, line) for number, line in enumerate(text.split("\n"))])


def parse_entries(text):
    """The entries that are written in the text. Raises InvalidLine."""
    if text == "":
        return []
    return [_parse_entry(number, line) for number, line in enumerate(text.split("\n"))]


def _parse_entry(number, line):
    """The entry in the line with this number. Raises InvalidLine."""
    made, _, table = line.partition(EQUALS)
    return (_parse_line(number, made), _parse_table(number, table))


def _parse_line(number, line):
    """The line of a recipe that is written in the line with this number. Raises InvalidLine."""
    words = line.split(" ")
    integers = words[1:]
    if HOW_MANY.get(words[0], -1) != len(integers) or not all([is_written_integer(word) for word in integers]):
        raise InvalidLine(number)
    greatest = GREATEST_LETTER if words[0] == "letter" else number - 1
    if any([int(word) > greatest for word in integers]):
        raise InvalidLine(number)
    return (words[0],) + tuple([int(word) for word in integers])


def _parse_table(number, text):
    """The table that is written in the line with this number. Raises InvalidLine."""
    rows = [row.split(",") for row in text.split("/")]
    if len(rows) > MOST_ROWS or any([len(row) != len(rows) for row in rows]):
        raise InvalidLine(number)
    if not all([_is_written_value(word) for row in rows for word in row]):
        raise InvalidLine(number)
    return tuple([tuple([_parse_value(word) for word in row]) for row in rows])


def _is_written_value(word):
    """Whether the word is a value as it is written in tables."""
    if word == NO_RUN or word == GROWING:
        return True
    return is_written_integer(word) and int(word) <= GREATEST_ACTION


def _parse_value(word):
    """The value that is written as the word."""
    if word == NO_RUN:
        return None
    return GROWS if word == GROWING else int(word)
