"""Other ways to find costs, which the tests compare the program with.

They share nothing with the program: the actions, too, are written anew.
"""


def after(action, counters):
    """The counters after the action, as point 2 says it."""
    changed = list(counters)
    if action > 0:
        top = (action + 1) // 2
        for counter in range(1, top):
            changed[counter - 1] = 0
        changed[top - 1] = changed[top - 1] + 1 if action % 2 == 1 else 0
    return tuple(changed)


def run_cost(machine, first, numbers):
    """The cost of the run that begins in the state and takes the steps with these numbers."""
    counters = (0,) * machine[1]
    highest = 0
    for number in numbers:
        counters = after(machine[3][number][3], counters)
        highest = max((highest,) + counters)
    return highest


def runs(machine, word):
    """All runs that accept the word: pairs of the first state and the tuple of step numbers."""
    _, _, _, steps, firsts, lasts = machine
    found = [(first, (), first) for first in firsts]
    for letter in word:
        found = [
            (first, numbers + (number,), step[2])
            for first, numbers, state in found
            for number, step in enumerate(steps)
            if step[0] == letter and step[1] == state
        ]
    return [(first, numbers) for first, numbers, state in found if state in lasts]


def cheapest_listed(machine, word):
    """What `cheapest` returns, found by listing all runs."""
    firsts = machine[4]
    found = [
        (run_cost(machine, first, numbers), firsts.index(first), numbers) for first, numbers in runs(machine, word)
    ]
    if not found:
        return None
    cost, place, numbers = min(found)
    return (cost, firsts[place], numbers)


def cheapest_by_places(machine, word):
    """What `cheapest` returns, found letter by letter for one bound after another.

    Of all runs that lead to the same state and counters only the smallest is kept.
    """
    _, counters, _, _, firsts, lasts = machine
    for bound in range(len(word) + 1):
        kept = {(first, (0,) * counters): (place, ()) for place, first in reversed(list(enumerate(firsts)))}
        for letter in word:
            kept = one_letter_on(machine, letter, bound, kept)
        ends = [run for (state, _), run in kept.items() if state in lasts]
        if ends:
            place, numbers = min(ends)
            return (bound, firsts[place], numbers)
    return None


def one_letter_on(machine, letter, bound, kept):
    """The smallest runs that are one letter longer and within the bound, by state and counters."""
    longer = {}
    for (state, counters), (place, numbers) in kept.items():
        for number, (read, before, later, action) in enumerate(machine[3]):
            if read == letter and before == state:
                changed = after(action, counters)
                run = (place, numbers + (number,))
                if max((0,) + changed) <= bound and run < longer.get((later, changed), (len(machine[4]), ())):
                    longer[(later, changed)] = run
    return longer
