"""What words cost, and the cheapest runs over them.

A bound is tried from the end of the word backwards. A room is a tuple with one
number for each counter: from a state, with no counter above its number, the rest
of the word can be run to a last state with no counter ever above the bound.
"""

from mostspent.machines import applied


def cost(machine, word):
    """The cost of the word, or None if it is not accepted."""
    run = cheapest(machine, word)
    return None if run is None else run[0]


def cheapest(machine, word):
    """The tuple (cost, first state, step numbers) of the cheapest run, or None if the word is not accepted."""
    if not _is_accepted(machine, word):
        return None
    bound = _least_bound(machine, word)
    first, numbers = _smallest_run(machine, word, bound)
    return (bound, first, numbers)


def _is_accepted(machine, word):
    """Whether some run accepts the word."""
    states, _, letters, steps, firsts, lasts = machine
    # Without counters nothing is ever above a bound, so that only the states matter.
    return _is_kept((states, 0, letters, steps, firsts, lasts), word, 0)


def _least_bound(machine, word):
    """The smallest bound that some run accepting the word keeps. There is such a run."""
    low = 0
    high = 0
    # Small bounds come first, as great ones take longer to try.
    while not _is_kept(machine, word, high):
        low = high + 1
        high = 2 * high + 1
    while low < high:
        middle = (low + high) // 2
        if _is_kept(machine, word, middle):
            high = middle
        else:
            low = middle + 1
    return low


def _is_kept(machine, word, bound):
    """Whether some run accepts the word with no counter above the bound."""
    rooms = _rooms(machine, word, bound)[0]
    return any([state in rooms for state in machine[4]])


def _rooms(machine, word, bound):
    """For each position in the word, the end included, the rooms there: a dict of lists by state."""
    _, counters, _, steps, _, lasts = machine
    found = [{state: [(bound,) * counters] for state in lasts}]
    for letter in reversed(word):
        found.append(_rooms_before(steps, letter, bound, found[-1]))
    found.reverse()
    return found


def _rooms_before(steps, letter, bound, rooms):
    """The rooms ahead of a letter behind which there are these rooms."""
    found = {}
    for read, before, after, action in steps:
        if read == letter:
            for room in rooms.get(after, []):
                earlier = _room_before(action, room, bound)
                if -1 not in earlier:
                    found.setdefault(before, []).append(earlier)
    return {state: _widest(found[state]) for state in found}


def _room_before(action, room, bound):
    """The greatest values from which the action stays in the room, -1 for a counter that has none."""
    return tuple([_most_before(action, counter, most, bound) for counter, most in enumerate(room, start=1)])


def _most_before(action, counter, most, bound):
    """The greatest value of the counter that the action makes at most `most`."""
    if action == 2 * counter - 1:
        return most - 1
    if action >= 2 * counter:
        return bound
    return most


def _widest(rooms):
    """Of rooms that differ in the first counter only, the greatest, as it contains the others."""
    found = {}
    for room in rooms:
        others = room[1:]
        found[others] = max(found.get(others, room), room)
    return list(found.values())


def _smallest_run(machine, word, bound):
    """The first state and the step numbers of the first run that accepts the word within the bound."""
    _, many, _, steps, firsts, _ = machine
    rooms = _rooms(machine, word, bound)
    first = [candidate for candidate in firsts if candidate in rooms[0]][0]
    state = first
    counters = (0,) * many
    numbers = []
    for at, letter in enumerate(word):
        number = _smallest_step(steps, letter, state, counters, rooms[at + 1])
        numbers.append(number)
        state = steps[number][2]
        counters = applied(steps[number][3], counters)
    return (first, tuple(numbers))


def _smallest_step(steps, letter, state, counters, rooms):
    """The smallest number of a step by the letter behind which there is room for the counters."""
    return min([
        number
        for number, (read, before, after, action) in enumerate(steps)
        if read == letter and before == state and _fits(applied(action, counters), rooms.get(after, []))
    ])


def _fits(counters, rooms):
    """Whether one of the rooms has room for the counters."""
    return any([_is_within(counters, room) for room in rooms])


def _is_within(counters, room):
    """Whether no counter is above its number in the room."""
    return all([value <= most for value, most in zip(counters, room)])
