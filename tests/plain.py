"""Values, tables and bounds worked out anew and slowly, which the tests compare the program with.

Nothing here uses the tables of the program; the actions are those of tests/listing.py.
"""

import functools
import itertools
import random

from tests.listing import after

ORDER = [6, 4, 2, 0, 1, 3, 5, "grows", None]


def best(values):
    """The value that comes first in the order of point 10."""
    return min(list(values) + [None], key=ORDER.index)


def along(*values):
    """The values in sequence, as point 11 says it."""
    if None in values:
        return None
    return "grows" if "grows" in values else max(values)


def square(size, value):
    """The table of this size whose value from i to j is value(i, j)."""
    return tuple(tuple(value(i, j) for j in range(size)) for i in range(size))


def sequence(first, second):
    """The two tables in sequence, as point 13 says it."""
    size = len(first)
    return square(size, lambda i, j: best(along(first[i][k], second[k][j]) for k in range(size)))


def again(table):
    """The stable table repeated, as point 14 says it."""
    size = len(table)
    stay = [table[k][k] if table[k][k] in (0, 2, 4, 6, None) else "grows" for k in range(size)]
    return square(size, lambda i, j: best(along(table[i][k], stay[k], table[k][j]) for k in range(size)))


def of_letter(machine, letter):
    """The table of the letter, as point 12 says it."""
    return square(machine[0], lambda i, j: best(step[3] for step in machine[3] if step[:3] == (letter, i, j)))


def table_of(machine, line, tables):
    """The table of the line, as point 15 says it, given those of the earlier lines, or None."""
    word, *numbers = line
    if word == "letter":
        return of_letter(machine, numbers[0]) if numbers[0] < machine[2] else None
    named = [tables[number] for number in numbers]
    if None in named:
        return None
    if word == "both":
        return sequence(*named)
    return again(named[0]) if sequence(named[0], named[0]) == named[0] else None


def all_tables(machine, most):
    """The set of all tables that can be made as in point 17, or None if there are more than `most`."""
    found = set()
    new = {of_letter(machine, letter) for letter in range(machine[2])}
    while new:
        found |= new
        if len(found) > most:
            return None
        more = {sequence(*pair) for one, other in itertools.product(found, new) for pair in ((one, other), (other, one))}
        more |= {again(table) for table in new if sequence(table, table) == table}
        new = more - found
    return found


def tried_in_turn(letters, made, most):
    """The lists of lines and of what they make, in the order of point 17, found from lists of the lines that are tried.

    What a line makes is made(line, what was made before), None if it makes nothing; it ends at more than `most`.
    """
    lines, found = [], []
    tried = 0
    waiting = [("letter", letter) for letter in range(letters)]
    while waiting and len(found) <= most:
        for line in waiting:
            new = made(line, found)
            if new is not None and new not in found:
                lines.append(line)
                found.append(new)
        waiting = []
        if tried < len(lines):
            waiting.append(("often", tried))
            for other in range(tried + 1):
                waiting.extend([("both", tried, other), ("both", other, tried)])
        tried += 1
    return lines, found


def listed(machine):
    """The catalogue, if it has at most 1000 entries."""
    return list(zip(*tried_in_turn(machine[2], lambda line, tables: table_of(machine, line, tables), 1000)))


def value_of(machine, table):
    """The best value of the table, as point 18 says it."""
    return best(table[first][last] for first, last in itertools.product(machine[4], machine[5]))


def word_above(machine, number, most):
    """A shortest word that is accepted and costs more than the number, None if there is none.

    Words that lead to the same states and to the same values of counters up to the number are taken for one.
    Raises LookupError if there are more than `most` kinds of words.
    """
    _, counters, letters, steps, firsts, lasts = machine
    start = (frozenset(firsts), frozenset((first, (0,) * counters) for first in firsts))
    seen = {start: []}
    waiting = [start]
    for states, places in waiting:
        word = seen[(states, places)]
        if states & set(lasts) and not {state for state, _ in places} & set(lasts):
            return word
        for letter in range(letters):
            taken = [step for step in steps if step[0] == letter]
            onward = [(step[2], after(step[3], values)) for state, values in places for step in taken if step[1] == state]
            kept = frozenset((state, values) for state, values in onward if max((0,) + values) <= number)
            kind = (frozenset(step[2] for step in taken if step[1] in states), kept)
            if kind not in seen:
                seen[kind] = word + [letter]
                waiting.append(kind)
                if len(seen) > most:
                    raise LookupError("too many kinds of words")
    return None


def random_machine(source, most_states, most_counters, most_letters, most_steps):
    """A machine of at most these sizes."""
    states, letters = source.randint(1, most_states), source.randint(1, most_letters)
    counters = source.randint(0, most_counters)
    steps = tuple(
        (source.randrange(letters), source.randrange(states), source.randrange(states), source.randint(0, 2 * counters))
        for _ in range(source.randint(0, most_steps))
    )
    firsts, lasts = (tuple(source.sample(range(states), source.randint(0, states))) for _ in range(2))
    return (states, counters, letters, steps, firsts, lasts)


@functools.lru_cache
def small_machines():
    """60 machines with 4 to 100 tables, among which some grow, and 60 among which none does."""
    source = random.Random(30)
    found = {True: [], False: []}
    while min(len(found[True]), len(found[False])) < 60:
        machine = random_machine(source, 3, 2, 2, 8)
        tables = all_tables(machine, 100)
        if tables is not None and len(tables) >= 4:
            grows = "grows" in [value_of(machine, table) for table in tables]
            if len(found[grows]) < 60:
                found[grows].append(machine)
    return found[True] + found[False]


def random_table(source, size):
    """A table of this size with values of all kinds."""
    values = source.sample(ORDER, source.randint(1, len(ORDER)))
    return square(size, lambda _i, _j: source.choice(values))


def stable_tables(source, size, many):
    """Stable tables of this size, made by squaring random ones."""
    found = []
    while len(found) < many:
        table = random_table(source, size)
        for _ in range(6):
            table = sequence(table, table)
        if sequence(table, table) == table:
            found.append(table)
    return found
