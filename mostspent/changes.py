"""Machines put together, and machines with other letters."""

from mostspent.errors import MachineTooLarge
from mostspent.machines import MOST_STATES, MOST_STEPS


def join(first, second):
    """The machine that has the runs of both machines. Raises MachineTooLarge."""
    if first[0] + second[0] > MOST_STATES or len(first[3]) + len(second[3]) > MOST_STEPS:
        raise MachineTooLarge("the join would have too many states or steps")
    states, counters, letters, steps, firsts, lasts = second
    moved_steps = [(letter, before + first[0], after + first[0], action) for letter, before, after, action in steps]
    return (
        first[0] + states,
        max(first[1], counters),
        max(first[2], letters),
        first[3] + tuple(moved_steps),
        first[4] + tuple([state + first[0] for state in firsts]),
        first[5] + tuple([state + first[0] for state in lasts]),
    )


def renamed(machine, letters, names):
    """The machine with this many letters, in which each letter has become the one at its index in the names."""
    states, counters, _, steps, firsts, lasts = machine
    renamed_steps = [(names[letter], before, after, action) for letter, before, after, action in steps]
    return (states, counters, letters, tuple(renamed_steps), firsts, lasts)
