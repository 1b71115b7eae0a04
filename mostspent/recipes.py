"""Recipes: the tables of their lines, and the words that they give."""

from mostspent.errors import WordTooLong
from mostspent.tables import in_sequence, is_stable, letter_table, repeated

MOST_LETTERS_IN_WORD = 10000


def tables_of(machine, recipe):
    """The tables of all lines, None for a line without a table."""
    tables = []
    for line in recipe:
        tables.append(table_of_line(machine, line, tables))
    return tables


def table_of_line(machine, line, tables):
    """The table of the line, given those of the earlier lines, or None if it has no table."""
    if line[0] == "letter":
        return letter_table(machine, line[1]) if 0 <= line[1] < machine[2] else None
    named = [tables[number] for number in line[1:]]
    if None in named:
        return None
    if line[0] == "both":
        return in_sequence(named[0], named[1])
    return repeated(named[0]) if is_stable(named[0]) else None


def word_of(recipe, times):
    """The word of the recipe, in which `often` repeats words this number of times. Raises WordTooLong."""
    if not recipe:
        # There is no last line, whose word it would be.
        return []
    lengths = _lengths(recipe, times)
    if lengths[-1] > MOST_LETTERS_IN_WORD:
        raise WordTooLong("the word of the recipe is too long")
    words = []
    for line, length in zip(recipe, lengths):
        # The last line's word, which is short enough, contains no word that is too long.
        words.append(_word_of_line(line, words, times) if length <= MOST_LETTERS_IN_WORD else [])
    return words[-1]


def _lengths(recipe, times):
    """How many letters the words of all lines have. One number stands for all that are too great."""
    lengths = []
    for line in recipe:
        # Without this limit 1000 lines could make numbers of thousands of digits.
        lengths.append(min(_length_of_line(line, lengths, times), MOST_LETTERS_IN_WORD + 1))
    return lengths


def _length_of_line(line, lengths, times):
    """How many letters the word of the line has, given the lengths of the earlier lines."""
    if line[0] == "letter":
        return 1
    if line[0] == "both":
        return lengths[line[1]] + lengths[line[2]]
    return lengths[line[1]] * times


def _word_of_line(line, words, times):
    """The word of the line, given the words of the earlier lines."""
    if line[0] == "letter":
        return [line[1]]
    if line[0] == "both":
        return words[line[1]] + words[line[2]]
    return words[line[1]] * times
