"""Two machines side by side: whether the costs of the one are bounded within those of the other."""

from mostspent.catalogues import closed, recipe_of
from mostspent.costs import cost
from mostspent.errors import DifferentLetters
from mostspent.tables import best_value, is_action, letter_table


def within(first, second):
    """Whether the first machine is bounded within the second one. Raises DifferentLetters, then TooManyTables."""
    if first[2] != second[2]:
        raise DifferentLetters("the machines have different numbers of letters")
    pairs = closed([(letter_table(first, letter), letter_table(second, letter)) for letter in range(first[2])])
    for number, (_, tables) in enumerate(pairs):
        if _is_bad(first, second, tables):
            return ("not", len(pairs), recipe_of(pairs, number))
    if cost(second, []) is not None and cost(first, []) is None:
        return ("empty", len(pairs))
    return ("within", len(pairs))


def _is_bad(first, second, tables):
    """Whether the pair of tables stands for words that cost the second machine little, but not the first one."""
    return is_action(best_value(second, tables[1])) and not is_action(best_value(first, tables[0]))
