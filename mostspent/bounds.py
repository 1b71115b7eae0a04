"""How often to repeat what grows, words above a number, and the least bounds of machines.

The possibility of a word is a tuple with one item for each state: None if no run over the word from a
first state leads there, otherwise the set of the places (see places.py) of the counters there in those
of these runs that cost at most the number.
"""

from mostspent.errors import NoBound, TooManyPossibilities
from mostspent.places import grouped_steps, move, moved, power

MOST_POSSIBILITIES = 300


def enough(machine, number):
    """With how many times the words of recipes that grow cost more than the number."""
    return machine[0] * power(number + 1, machine[1]) + 2


def word_above(machine, number):
    """The first word above the number, or None if the number is a bound. Raises TooManyPossibilities."""
    moves = [_moves(machine, letter, number) for letter in range(machine[2])]
    start = _possibility_of_empty_word(machine, number)
    known = {start: True}
    found = [([], start)]
    looked_at = 0
    while looked_at < len(found):
        word, possibility = found[looked_at]
        if _is_above(machine, possibility):
            return word
        for letter in range(machine[2]):
            longer = _possibility_after(possibility, moves[letter])
            if longer not in known:
                known[longer] = True
                found.append((word + [letter], longer))
        if len(found) > MOST_POSSIBILITIES:
            raise TooManyPossibilities("the search for a word above the number is given up")
        looked_at += 1
    return None


def _moves(machine, letter, number):
    """How the steps by the letter lead on: tuples of the state before, how places move, and the states after."""
    base = max(number, 0) + 1
    return [
        (before, move(action, base, machine[1]), afters)
        for before, action, afters in grouped_steps(machine, letter)
    ]


def _possibility_of_empty_word(machine, number):
    """The possibility of the empty word."""
    # No run costs less than 0.
    places = 1 if number >= 0 else 0
    return tuple([places if state in machine[4] else None for state in range(machine[0])])


def _possibility_after(possibility, moves):
    """The possibility of a word with one more letter, which has these moves."""
    longer = [None] * len(possibility)
    for before, how, afters in moves:
        if possibility[before] is not None:
            places = moved(possibility[before], how)
            for after in afters:
                longer[after] = places | (longer[after] or 0)
    return tuple(longer)


def _is_above(machine, possibility):
    """Whether words with this possibility are accepted and cost more than the number."""
    ends = [possibility[last] for last in machine[5] if possibility[last] is not None]
    return len(ends) > 0 and not any(ends)


def least_bound(machine, most):
    """The tuple (least bound, worst word). Raises NoBound if the bound is above `most`, or TooManyPossibilities."""
    worst = None
    for number in range(most + 1):
        above = word_above(machine, number)
        if above is None:
            return (number, worst)
        worst = above
    raise NoBound("no number up to the given one is a bound")
