"""The values of all counters as one number, their place, and sets of places as one number.

If all values are below a base, the values a, b, c of counters 1, 2, 3 have the place
a + b * base + c * base * base: the values are its digits. An action sets the lowest
digits to 0 and perhaps adds 1 to the next one; the width of the action is what a 1 in
this next digit is worth. In a set of places the bit at each of its places is 1, so that
few operations on numbers move all of them.
"""


def power(base, exponent):
    """The base to the power of the exponent."""
    result = 1
    for _ in range(exponent):
        result = result * base
    return result


def width(action, base):
    """The width of the action."""
    return power(base, action // 2)


def grouped_steps(machine, letter):
    """The steps by the letter as tuples (before, action, states after), one for each state before and action."""
    afters = {}
    for read, before, after, action in machine[3]:
        if read == letter:
            # An action of a counter that the machine does not have sets all of its counters to 0.
            afters.setdefault((before, min(action, 2 * machine[1])), []).append(after)
    return [(before, action, afters[(before, action)]) for before, action in afters]


def move(action, base, counters):
    """How the action moves sets: its width, by how much it increases places, and the set to which it leads."""
    many = power(base, counters)
    wide = width(action, base)
    if action % 2 == 0:
        return (wide, 0, _multiples(wide, many))
    # A digit that is 0 after it was increased has run over.
    return (wide, wide, _multiples(wide, many) - _multiples(wide * base, many))


def _multiples(apart, many):
    """The set of the multiples of `apart` that are below `many`, itself a multiple."""
    return ((1 << many) - 1) // ((1 << apart) - 1)


def moved(places, how):
    """The set of places after an action, as `move` tells how; places with a value that reaches the base fall out."""
    wide, more, kept = how
    return (_lowered(places, wide) << more) & kept


def _lowered(places, wide):
    """The set of all places that are less than `wide` below one of the places.

    A single multiple of `wide` is among those of each place: the one with 0 for its lowest digits.
    """
    below = 1
    while below < wide:
        step = min(below, wide - below)
        places = places | (places >> step)
        below += step
    return places
