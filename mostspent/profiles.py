"""Profiles: how many words of a length cost how much.

The mark of a word is a tuple with one item for each state: a sorted tuple of the numbers place * base + cost, one
for each place (see places.py) of the counters with which some run over the word from a first state leads to this
state, with the cost of the cheapest such run. Large marks take less room so than with pairs.
"""

from mostspent.errors import TooManyPossibilities
from mostspent.places import grouped_steps, width

MOST_MARKS = 300


def profile(machine, length):
    """The pairs (cost, count) of the accepted words of this length. Raises TooManyPossibilities."""
    if length < 0:
        # No word is so short.
        return []
    # No value of a counter is above the length.
    base = length + 1
    moves = [_moves(machine, letter, base) for letter in range(machine[2])]
    counts = {_mark_of_empty_word(machine): 1}
    for _ in range(length):
        counts = _counts_after(counts, moves, base)
    return _by_cost(machine, counts, base)


def _moves(machine, letter, base):
    """How the steps by the letter lead on: tuples of the state before, how places move, and the states after."""
    moves = []
    for before, action, afters in grouped_steps(machine, letter):
        wide = width(action, base)
        moves.append((before, wide, wide if action % 2 == 1 else 0, afters))
    return moves


def _mark_of_empty_word(machine):
    """The mark of the empty word."""
    return tuple([(0,) if state in machine[4] else () for state in range(machine[0])])


def _counts_after(counts, moves, base):
    """How many words with one more letter have which mark."""
    longer = {}
    for mark, count in counts.items():
        for moves_of_letter in moves:
            onward = _mark_after(mark, moves_of_letter, base)
            longer[onward] = longer.get(onward, 0) + count
        if len(longer) > MOST_MARKS:
            raise TooManyPossibilities("the profile is given up")
    return longer


def _mark_after(mark, moves, base):
    """The mark of a word with one more letter, which has these moves."""
    least = [{} for _ in mark]
    for before, wide, more, afters in moves:
        moved = _moved_costs(mark[before], wide, more, base)
        for after in afters:
            _keep_least(least[after], moved)
    return tuple([tuple(sorted([place * base + costs[place] for place in costs])) for costs in least])


def _moved_costs(numbers, wide, more, base):
    """The least costs by place after an action, given the numbers of a mark ahead of it."""
    least = {}
    for number in numbers:
        place = number // base
        onward = place - place % wide + more
        # The only value that may be above the cost is the one that was increased, if one was.
        price = max(number % base, onward // wide % base)
        if price < least.get(onward, price + 1):
            least[onward] = price
    return least


def _keep_least(least, costs):
    """Put the costs that are less than those kept in their place."""
    for place, cost in costs.items():
        if cost < least.get(place, cost + 1):
            least[place] = cost


def _by_cost(machine, counts, base):
    """The pairs (cost, count) of the accepted words among those with these marks."""
    accepted = {}
    for mark, count in counts.items():
        costs = [number % base for last in machine[5] for number in mark[last]]
        if costs:
            accepted[min(costs)] = accepted.get(min(costs), 0) + count
    return sorted(accepted.items())
