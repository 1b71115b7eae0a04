"""Powers: of how many words of a machine, one after another, a word can be put together."""

from mostspent.bounds import least_bound
from mostspent.catalogues import verdict


def power_machine(machine):
    """The power machine, whose counter tells how many words of the machine have begun."""
    states, _, letters, steps, firsts, lasts = machine
    # Where a word of the machine may begin: in the new state, or where another one ends.
    starts = (states,) + lasts
    made = []
    for letter, before, after, _ in steps:
        made.append((letter, before, after, 0))
        if before in firsts:
            made.extend([(letter, start, after, 1) for start in starts])
    return (states + 1, 1, letters, tuple(made), (states,), starts)


def powers(machine):
    """The verdict on the power machine. Raises TooManyTables."""
    return verdict(power_machine(machine))


def least_power(machine, most):
    """The least bound of the power machine, as least_bound gives it. Raises NoBound or TooManyPossibilities."""
    return least_bound(power_machine(machine), most)
