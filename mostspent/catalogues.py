"""Catalogues, which hold all tables that can be made for a machine, and verdicts on machines."""

from mostspent.errors import TooManyTables
from mostspent.tables import GROWS, grows, in_sequence, is_stable, letter_table, repeated

MOST_ENTRIES = 100


def catalogue(machine):
    """The catalogue of the machine. Raises TooManyTables."""
    letters = [(letter_table(machine, letter),) for letter in range(machine[2])]
    return [(made, tables[0]) for made, tables in closed(letters)]


def closed(letters):
    """The entries (made, tables) of all that can be made from the letters. Raises TooManyTables.

    What stands for a letter, and then in each entry, is a tuple of one table or of several side by side.
    """
    entries = []
    known = {}
    for letter, tables in enumerate(letters):
        _add(entries, known, ("letter", letter), tables)
    number = 0
    while number < len(entries):
        _add_made_with(entries, known, number)
        number += 1
    return entries


def _add_made_with(entries, known, number):
    """Add what is made from the entry with this number, alone and with each entry up to it."""
    tables = entries[number][1]
    if all([is_stable(table) for table in tables]):
        _add(entries, known, ("often", number), tuple([repeated(table) for table in tables]))
    for earlier in range(number + 1):
        others = entries[earlier][1]
        _add(entries, known, ("both", number, earlier), _each_in_sequence(tables, others))
        _add(entries, known, ("both", earlier, number), _each_in_sequence(others, tables))


def _each_in_sequence(firsts, seconds):
    """Each of the first tables in sequence with the second one at its side."""
    return tuple([in_sequence(first, second) for first, second in zip(firsts, seconds)])


def _add(entries, known, made, tables):
    """Add an entry, unless its tables are known, that is, in the list already."""
    if tables in known:
        return
    if len(entries) == MOST_ENTRIES:
        raise TooManyTables("the catalogue would have too many entries")
    known[tables] = True
    entries.append((made, tables))


def verdict(machine):
    """Whether the machine is bounded or grows, with the number of entries. Raises TooManyTables."""
    return verdict_on(machine, catalogue(machine))


def verdict_on(machine, entries):
    """The verdict on the machine, whose catalogue has these entries."""
    for number, (_, table) in enumerate(entries):
        if grows(machine, table):
            return (GROWS, len(entries), recipe_of(entries, number))
    return ("bounded", len(entries))


def recipe_of(entries, number):
    """The recipe of the entry: its line and those that it needs, in their order and numbered anew."""
    needed = {number: True}
    for at in range(number, -1, -1):
        if at in needed:
            for earlier in _named(entries[at][0]):
                needed[earlier] = True
    kept = sorted(needed)
    places = {at: place for place, at in enumerate(kept)}
    return tuple([_renumbered(entries[at][0], places) for at in kept])


def _named(line):
    """The numbers of the lines that the line names."""
    return () if line[0] == "letter" else line[1:]


def _renumbered(line, places):
    """The line with the new numbers of the lines that it names."""
    if line[0] == "letter":
        return line
    return (line[0],) + tuple([places[at] for at in line[1:]])
