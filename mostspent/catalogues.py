"""Catalogues, which hold all tables that can be made for a machine, and verdicts on machines."""

from mostspent.errors import TooManyTables
from mostspent.tables import GROWS, grows, in_sequence, is_stable, letter_table, repeated

MOST_ENTRIES = 100


def catalogue(machine):
    """The catalogue of the machine. Raises TooManyTables."""
    entries = []
    known = {}
    for letter in range(machine[2]):
        _add(entries, known, ("letter", letter), letter_table(machine, letter))
    number = 0
    while number < len(entries):
        _add_made_with(entries, known, number)
        number += 1
    return entries


def _add_made_with(entries, known, number):
    """Add what is made from the entry with this number, alone and with each entry up to it."""
    table = entries[number][1]
    if is_stable(table):
        _add(entries, known, ("often", number), repeated(table))
    for earlier in range(number + 1):
        other = entries[earlier][1]
        _add(entries, known, ("both", number, earlier), in_sequence(table, other))
        _add(entries, known, ("both", earlier, number), in_sequence(other, table))


def _add(entries, known, made, table):
    """Add an entry, unless its table is known, that is, in the list already."""
    if table in known:
        return
    if len(entries) == MOST_ENTRIES:
        raise TooManyTables("the catalogue would have too many entries")
    known[table] = True
    entries.append((made, table))


def verdict(machine):
    """Whether the machine is bounded or grows, with the number of entries. Raises TooManyTables."""
    entries = catalogue(machine)
    for number, (_, table) in enumerate(entries):
        if grows(machine, table):
            return (GROWS, len(entries), recipe_of(entries, number))
    return ("bounded", len(entries))


def recipe_of(entries, number):
    """The recipe of the entry: its line and those that it needs, in their order and numbered anew."""
    needed = {number: True}
    for at in range(number, -1, -1):
        if at in needed:
            for earlier in _named(entries[at][0]):
                needed[earlier] = True
    kept = sorted(needed)
    places = {at: place for place, at in enumerate(kept)}
    return tuple([_renumbered(entries[at][0], places) for at in kept])


def _named(line):
    """The numbers of the lines that the line names."""
    return () if line[0] == "letter" else line[1:]


def _renumbered(line, places):
    """The line with the new numbers of the lines that it names."""
    if line[0] == "letter":
        return line
    return (line[0],) + tuple([places[at] for at in line[1:]])
