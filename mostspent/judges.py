"""The judge of catalogues, who trusts nothing but the rules by which tables are made."""

from mostspent.recipes import table_of_line
from mostspent.tables import GROWS, grows, is_stable, letter_table, repeated, row_in_sequence


def judge_catalogue(machine, entries):
    """The answer of the judge about the entries for the machine."""
    tables = [table for _, table in entries]
    for number, (made, table) in enumerate(entries):
        if table_of_line(machine, made, tables) != table:
            return ("wrong", number)
    for number, table in enumerate(tables):
        if grows(machine, table):
            return (GROWS, number)
    if _is_missing(machine, tables):
        return ("missing",)
    return ("bounded",)


def _is_missing(machine, tables):
    """Whether a table that can be made at once from letters or from the tables is not among them."""
    known = {table: True for table in tables}
    if any([letter_table(machine, letter) not in known for letter in range(machine[2])]):
        return True
    if any([is_stable(table) and repeated(table) not in known for table in known]):
        return True
    return _is_sequence_missing(known)


def _is_sequence_missing(known):
    """Whether two of the tables, the keys of the dict, give in sequence a table that is not among them."""
    rows = {row: True for table in known for row in table}
    for second in known:
        # The tables share many rows, and the second table takes each of them on by itself.
        onward = {row: row_in_sequence(row, second) for row in rows}
        if any([tuple([onward[row] for row in first]) not in known for first in known]):
            return True
    return False
